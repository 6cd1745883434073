import Derived.Test.YtnokgdgikdgaeaaP04
import Derived.Test.YtnokgdgikdgaeaaP05
import Derived.Test.YtnokgdgikdgaeaaP06
import Derived.Test.YtnokgdgikdgaeaaP03
import Derived.Test.YtnokgdgikdgaeaaP01
import Derived.Deep.QuietTactic
import Derived.BigQuiet
import Derived.BigRegion
import Derived.Deep.RegionWith
namespace Go.Proofs.Ytnokgdgikdgaeaa
open Go.RowKit
attribute [local go_sem] run_store_float

def rowS (k : Int) (m : PD) (kn : Nat) (q : Nat → Option PX) : Bool :=
  if k = 1 then usesP m false false false false false && (standR 1 kn q) else
  if k = 2 then declP m 1 200 && (standR 8 kn q) else
  if k = 3 then declP m 1 1 && (kidsR [8] kn q) else
  if k = 4 then declP m 1 1 && (kidsR [256] kn q) else
  if k = 5 then usesP m false true false false false && (targetsR m kn q) else
  if k = 6 then usesP m false false false false false && (kidsR [32] kn q) else
  if k = 16 then usesP m false false false false false && (kidsR [32] kn q) else
  if k = 7 then usesP m false false false false false && ((kidsR [8, 2] kn q || kidsR [8, 2, 4] kn q)) else
  if k = 8 then usesP m false false false false false && (kidsR [8, 2] kn q) else
  if k = 9 then declP m 1 1 && ((kidsR [8, 8, 2] kn q || kidsR [8, 8, 8, 2] kn q)) else
  if k = 10 then declP m 1 200 && (kidsR [8, 2] kn q) else
  if k = 11 then usesP m false false false false false && (kidsR [] kn q) else
  if k = 12 then usesP m false false false false false && (kidsR [] kn q) else
  if k = 13 then usesP m false false false false false && (standR 8 kn q) else
  if k = 14 then declP m 1 2 && (kidsR [2, 2] kn q) else
  if k = 15 then usesP m false false false false false && (kidsR [8] kn q) else
  false
def stB (d : PD) (q : Nat → Option PX) : Bool := @ite _ (slimP d) (slimD d) (rowS d.kind d (knP d) q) false
def rowE (k : Int) (m : PD) (kn : Nat) (q : Nat → Option PX) : Bool :=
  if k = 20 then usesP m false false false false false && (kidsR [] kn q) else
  if k = 21 then usesP m false false false false false && (kidsR [] kn q) else
  if k = 22 then usesP m false false false false false && (kidsR [] kn q) else
  if k = 23 then usesP m false true false false false && (kidsR [] kn q) else
  if k = 24 then usesP m false false true false false && (fnum m.flt && (kidsR [] kn q)) else
  if k = 25 then usesP m false false false true false && (decide ((m.text.size : Int) ≤ 4000) && (kidsR [] kn q)) else
  if k = 26 then usesP m false false false true false && (nameB m.text && (kidsR [] kn q)) else
  if k = 27 then usesP m false false false false false && (kidsR [] kn q) else
  if k = 28 then usesP m false false false false false && (kidsR [8, 8] kn q) else
  if k = 29 then usesP m false false false false false && (kidsR [8, 8] kn q) else
  if k = 30 then usesP m true false false false false && (decide ((19 : Int) ≤ m.op) && (decide (m.op ≤ 22) && (kidsR [8] kn q))) else
  if k = 31 then usesP m true false false false false && (decide ((1 : Int) ≤ m.op) && (decide (m.op ≤ 18) && (kidsR [8, 8] kn q))) else
  if k = 32 then usesP m false false false false false && (kidsR [16, 8] kn q) else
  if k = 33 then usesP m false false false true false && (nameB m.text && (kidsR [16] kn q)) else
  if k = 34 then usesP m false false false false false && ((decide ((1 : Int) ≤ kn) && (standR 16 1 q && standR 8 (kn - 1) (fun i => q (1 + i))))) else
  if k = 35 then usesP m false false false false false && (standR 512 kn q) else
  if k = 36 then usesP m true false false false true && ((m.op == 0 || m.op == 1) && (allB (fun i => nameB (m.nm i)) 0 m.nn && (kidsR [2] kn q))) else
  if k = 37 then usesP m false false false false false && (kidsR [64] kn q) else
  false
def exB (d : PD) (q : Nat → Option PX) : Bool := @ite _ (slimP d) (slimD d) (rowE d.kind d (knP d) q) false
def rowN (k : Int) (m : PD) (kn : Nat) (q : Nat → Option PX) : Bool :=
  if k = 40 then usesP m false false false false false && (kidsR [8] kn q) else
  if k = 41 then usesP m false false false false false && (kidsR [8, 8] kn q) else
  if k = 42 then usesP m false false false true false && (nameB m.text && (kidsR [8] kn q)) else
  false
def enB (d : PD) (q : Nat → Option PX) : Bool := @ite _ (slimP d) (slimD d) (rowN d.kind d (knP d) q) false

set_option maxRecDepth 100000 in
set_option maxHeartbeats 4000000 in
theorem statementFits_any (m : PM) (p : Nat) (kk : Option Addr) (q : Nat → Option PX) (w : World) (hk : ValsAt w kk (knP m.toPD) (fun j => pv (q j))) (hz : ∀ i, i < m.nn → (m.nm i).size ≤ 1048576) (htx : m.text.size ≤ 1048576) (hm : StrsAt w m.na m.nn m.nm) :
    Calls Try.prog 27 #[.iface (ptT m.toPD) (.agg #[.int .i64 p, .int .i64 m.kind, .int .i64 m.frm, .int .i64 m.tto, .int .i64 m.line, .int .i64 m.op, .int .i64 m.num, .float .f64 m.flt, .string m.text, .slice m.na m.nn m.nc, .slice m.ka m.nk m.kc, .slice kk (knP m.toPD) (knP m.toPD)])] w fun e w' => e = .returned (.bool (stB m.toPD q)) ∧ Onw w w' := by
  unfold stB ptT
  by_cases h : slimP m.toPD
  · rw [if_pos h, if_pos h]
    have hkn : knP m.toPD = m.nk := by unfold knP; rw [if_pos h]
    have hn : m.nk ≤ 1048576 := Nat.le_trans h.1 (by omega)
    have hnn : m.nn ≤ 1048576 := Nat.le_trans h.2 (by omega)
    rw [hkn] at hk ⊢
    have step : ∀ K, m.kind = K → (Calls Try.prog 27 #[.iface (partT K) (.agg #[.int .i64 p, .int .i64 m.kind, .int .i64 m.frm, .int .i64 m.tto, .int .i64 m.line, .int .i64 m.op, .int .i64 m.num, .float .f64 m.flt, .string m.text, .slice m.na m.nn m.nc, .slice m.ka m.nk m.kc, .slice kk m.nk m.nk])] w fun e w' => e = .returned (.bool (rowS K m.toPD m.nk q)) ∧ Onw w w') → Calls Try.prog 27 #[.iface (partT m.kind) (.agg #[.int .i64 p, .int .i64 m.kind, .int .i64 m.frm, .int .i64 m.tto, .int .i64 m.line, .int .i64 m.op, .int .i64 m.num, .float .f64 m.flt, .string m.text, .slice m.na m.nn m.nc, .slice m.ka m.nk m.kc, .slice kk m.nk m.nk])] w fun e w' => e = .returned (.bool (rowS m.kind m.toPD m.nk q)) ∧ Onw w w' := by
      intro K h s
      rw [congrArg partT h, congrArg (fun k => rowS k m.toPD m.nk q) h]; exact s
    rcases kinds_all m.kind with h | h | h | h | h | h | h | h | h | h | h | h | h | h | h | h | h | h | h | h | h | h | h | h | h | h | h | h | h | h | h | h | h | h | h | h | h | ⟨h, _, h2⟩
    · exact step _ h (sf_block m p kk _ _ q w ⟨hn, hk, Nat.le_refl _, hnn, hz, htx, hm⟩)
    · exact step _ h (sf_let m p kk _ _ q w ⟨hn, hk, Nat.le_refl _, hnn, hz, htx, hm⟩)
    · exact step _ h (sf_const m p kk _ _ q w ⟨hn, hk, Nat.le_refl _, hnn, hz, htx, hm⟩)
    · exact step _ h (sf_ownFn m p kk _ _ q w ⟨hn, hk, Nat.le_refl _, hnn, hz, htx, hm⟩)
    · exact step _ h (sf_set m p kk _ _ q w ⟨hn, hk, Nat.le_refl _, hnn, hz, htx, hm⟩)
    · exact step _ h (sf_do m p kk _ _ q w ⟨hn, hk, Nat.le_refl _, hnn, hz, htx, hm⟩)
    · exact step _ h (sf_do m p kk _ _ q w ⟨hn, hk, Nat.le_refl _, hnn, hz, htx, hm⟩)
    · exact step _ h (sf_if m p kk _ _ q w ⟨hn, hk, Nat.le_refl _, hnn, hz, htx, hm⟩)
    · exact step _ h (sf_while m p kk _ _ q w ⟨hn, hk, Nat.le_refl _, hnn, hz, htx, hm⟩)
    · exact step _ h (sf_for m p kk _ _ q w ⟨hn, hk, Nat.le_refl _, hnn, hz, htx, hm⟩)
    · exact step _ h (sf_each m p kk _ _ q w ⟨hn, hk, Nat.le_refl _, hnn, hz, htx, hm⟩)
    · exact step _ h (sf_jump m p kk _ _ q w ⟨hn, hk, Nat.le_refl _, hnn, hz, htx, hm⟩)
    · exact step _ h (sf_jump m p kk _ _ q w ⟨hn, hk, Nat.le_refl _, hnn, hz, htx, hm⟩)
    · exact step _ h (sf_return m p kk _ _ q w ⟨hn, hk, Nat.le_refl _, hnn, hz, htx, hm⟩)
    · exact step _ h (sf_try m p kk _ _ q w ⟨hn, hk, Nat.le_refl _, hnn, hz, htx, hm⟩)
    · exact step _ h (sf_throw m p kk _ _ q w ⟨hn, hk, Nat.le_refl _, hnn, hz, htx, hm⟩)
    · exact step _ h (sf_no (t := 100) (by decide) m p kk _ _ w)
    · exact step _ h (sf_no (t := 100) (by decide) m p kk _ _ w)
    · exact step _ h (sf_no (t := 100) (by decide) m p kk _ _ w)
    · exact step _ h (sf_no (t := 102) (by decide) m p kk _ _ w)
    · exact step _ h (sf_no (t := 103) (by decide) m p kk _ _ w)
    · exact step _ h (sf_no (t := 105) (by decide) m p kk _ _ w)
    · exact step _ h (sf_no (t := 106) (by decide) m p kk _ _ w)
    · exact step _ h (sf_no (t := 101) (by decide) m p kk _ _ w)
    · exact step _ h (sf_no (t := 107) (by decide) m p kk _ _ w)
    · exact step _ h (sf_no (t := 107) (by decide) m p kk _ _ w)
    · exact step _ h (sf_no (t := 108) (by decide) m p kk _ _ w)
    · exact step _ h (sf_no (t := 109) (by decide) m p kk _ _ w)
    · exact step _ h (sf_no (t := 110) (by decide) m p kk _ _ w)
    · exact step _ h (sf_no (t := 111) (by decide) m p kk _ _ w)
    · exact step _ h (sf_no (t := 112) (by decide) m p kk _ _ w)
    · exact step _ h (sf_no (t := 113) (by decide) m p kk _ _ w)
    · exact step _ h (sf_no (t := 114) (by decide) m p kk _ _ w)
    · exact step _ h (sf_no (t := 116) (by decide) m p kk _ _ w)
    · exact step _ h (sf_no (t := 119) (by decide) m p kk _ _ w)
    · exact step _ h (sf_no (t := 120) (by decide) m p kk _ _ w)
    · exact step _ h (sf_no (t := 121) (by decide) m p kk _ _ w)
    · have e : rowS m.kind m.toPD m.nk q = false := by
        obtain ⟨e1, e2, e3, e4, e5, e6, e16, e7, e8, e9, e10, e11, e12, e13, e14, e15, e20, e21, e22, e23, e24, e25, e26, e27, e28, e29, e30, e31, e32, e33, e34, e35, e36, e37, e40, e41, e42⟩ := h2
        unfold rowS; rw [if_neg e1, if_neg e2, if_neg e3, if_neg e4, if_neg e5, if_neg e6, if_neg e16, if_neg e7, if_neg e8, if_neg e9, if_neg e10, if_neg e11, if_neg e12, if_neg e13, if_neg e14, if_neg e15]
      rw [h, e]; exact sf_no (t := 73) (by decide) m p kk _ _ w
  · rw [if_neg h, if_neg h]; exact sf_no (t := 73) (by decide) m p kk _ _ w

set_option maxRecDepth 100000 in
set_option maxHeartbeats 4000000 in
theorem expressionFits_any (m : PM) (p : Nat) (kk : Option Addr) (q : Nat → Option PX) (w : World) (hk : ValsAt w kk (knP m.toPD) (fun j => pv (q j))) (hz : ∀ i, i < m.nn → (m.nm i).size ≤ 1048576) (htx : m.text.size ≤ 1048576) (hm : StrsAt w m.na m.nn m.nm) :
    Calls Try.prog 28 #[.iface (ptT m.toPD) (.agg #[.int .i64 p, .int .i64 m.kind, .int .i64 m.frm, .int .i64 m.tto, .int .i64 m.line, .int .i64 m.op, .int .i64 m.num, .float .f64 m.flt, .string m.text, .slice m.na m.nn m.nc, .slice m.ka m.nk m.kc, .slice kk (knP m.toPD) (knP m.toPD)])] w fun e w' => e = .returned (.bool (exB m.toPD q)) ∧ Onw w w' := by
  unfold exB ptT
  by_cases h : slimP m.toPD
  · rw [if_pos h, if_pos h]
    have hkn : knP m.toPD = m.nk := by unfold knP; rw [if_pos h]
    have hn : m.nk ≤ 1048576 := Nat.le_trans h.1 (by omega)
    have hnn : m.nn ≤ 1048576 := Nat.le_trans h.2 (by omega)
    rw [hkn] at hk ⊢
    have step : ∀ K, m.kind = K → (Calls Try.prog 28 #[.iface (partT K) (.agg #[.int .i64 p, .int .i64 m.kind, .int .i64 m.frm, .int .i64 m.tto, .int .i64 m.line, .int .i64 m.op, .int .i64 m.num, .float .f64 m.flt, .string m.text, .slice m.na m.nn m.nc, .slice m.ka m.nk m.kc, .slice kk m.nk m.nk])] w fun e w' => e = .returned (.bool (rowE K m.toPD m.nk q)) ∧ Onw w w') → Calls Try.prog 28 #[.iface (partT m.kind) (.agg #[.int .i64 p, .int .i64 m.kind, .int .i64 m.frm, .int .i64 m.tto, .int .i64 m.line, .int .i64 m.op, .int .i64 m.num, .float .f64 m.flt, .string m.text, .slice m.na m.nn m.nc, .slice m.ka m.nk m.kc, .slice kk m.nk m.nk])] w fun e w' => e = .returned (.bool (rowE m.kind m.toPD m.nk q)) ∧ Onw w w' := by
      intro K h s
      rw [congrArg partT h, congrArg (fun k => rowE k m.toPD m.nk q) h]; exact s
    rcases kinds_all m.kind with h | h | h | h | h | h | h | h | h | h | h | h | h | h | h | h | h | h | h | h | h | h | h | h | h | h | h | h | h | h | h | h | h | h | h | h | h | ⟨h, _, h2⟩
    · exact step _ h (ef_no (t := 81) (by decide) m p kk _ _ w)
    · exact step _ h (ef_no (t := 84) (by decide) m p kk _ _ w)
    · exact step _ h (ef_no (t := 85) (by decide) m p kk _ _ w)
    · exact step _ h (ef_no (t := 87) (by decide) m p kk _ _ w)
    · exact step _ h (ef_no (t := 88) (by decide) m p kk _ _ w)
    · exact step _ h (ef_no (t := 90) (by decide) m p kk _ _ w)
    · exact step _ h (ef_no (t := 90) (by decide) m p kk _ _ w)
    · exact step _ h (ef_no (t := 91) (by decide) m p kk _ _ w)
    · exact step _ h (ef_no (t := 92) (by decide) m p kk _ _ w)
    · exact step _ h (ef_no (t := 93) (by decide) m p kk _ _ w)
    · exact step _ h (ef_no (t := 94) (by decide) m p kk _ _ w)
    · exact step _ h (ef_no (t := 95) (by decide) m p kk _ _ w)
    · exact step _ h (ef_no (t := 95) (by decide) m p kk _ _ w)
    · exact step _ h (ef_no (t := 96) (by decide) m p kk _ _ w)
    · exact step _ h (ef_no (t := 97) (by decide) m p kk _ _ w)
    · exact step _ h (ef_no (t := 98) (by decide) m p kk _ _ w)
    · exact step _ h (ef_bare m p kk _ _ q w ⟨hn, hk, Nat.le_refl _, hnn, hz, htx, hm⟩)
    · exact step _ h (ef_bare m p kk _ _ q w ⟨hn, hk, Nat.le_refl _, hnn, hz, htx, hm⟩)
    · exact step _ h (ef_bare m p kk _ _ q w ⟨hn, hk, Nat.le_refl _, hnn, hz, htx, hm⟩)
    · exact step _ h (ef_int m p kk _ _ q w ⟨hn, hk, Nat.le_refl _, hnn, hz, htx, hm⟩)
    · exact step _ h (ef_flt m p kk _ _ q w ⟨hn, hk, Nat.le_refl _, hnn, hz, htx, hm⟩)
    · exact step _ h (ef_str m p kk _ _ q w ⟨hn, hk, Nat.le_refl _, hnn, hz, htx, hm⟩)
    · exact step _ h (ef_name m p kk _ _ q w ⟨hn, hk, Nat.le_refl _, hnn, hz, htx, hm⟩)
    · exact step _ h (ef_rest m p kk _ _ q w ⟨hn, hk, Nat.le_refl _, hnn, hz, htx, hm⟩)
    · exact step _ h (ef_either m p kk _ _ q w ⟨hn, hk, Nat.le_refl _, hnn, hz, htx, hm⟩)
    · exact step _ h (ef_either m p kk _ _ q w ⟨hn, hk, Nat.le_refl _, hnn, hz, htx, hm⟩)
    · exact step _ h (ef_unary m p kk _ _ q w ⟨hn, hk, Nat.le_refl _, hnn, hz, htx, hm⟩)
    · exact step _ h (ef_binary m p kk _ _ q w ⟨hn, hk, Nat.le_refl _, hnn, hz, htx, hm⟩)
    · exact step _ h (ef_index m p kk _ _ q w ⟨hn, hk, Nat.le_refl _, hnn, hz, htx, hm⟩)
    · exact step _ h (ef_field m p kk _ _ q w ⟨hn, hk, Nat.le_refl _, hnn, hz, htx, hm⟩)
    · exact step _ h (ef_call m p kk _ _ q w ⟨hn, hk, Nat.le_refl _, hnn, hz, htx, hm⟩)
    · exact step _ h (ef_table m p kk _ _ q w ⟨hn, hk, Nat.le_refl _, hnn, hz, htx, hm⟩)
    · exact step _ h (ef_fn m p kk _ _ q w ⟨hn, hk, Nat.le_refl _, hnn, hz, htx, hm⟩)
    · exact step _ h (ef_one m p kk _ _ q w ⟨hn, hk, Nat.le_refl _, hnn, hz, htx, hm⟩)
    · exact step _ h (ef_no (t := 119) (by decide) m p kk _ _ w)
    · exact step _ h (ef_no (t := 120) (by decide) m p kk _ _ w)
    · exact step _ h (ef_no (t := 121) (by decide) m p kk _ _ w)
    · have e : rowE m.kind m.toPD m.nk q = false := by
        obtain ⟨e1, e2, e3, e4, e5, e6, e16, e7, e8, e9, e10, e11, e12, e13, e14, e15, e20, e21, e22, e23, e24, e25, e26, e27, e28, e29, e30, e31, e32, e33, e34, e35, e36, e37, e40, e41, e42⟩ := h2
        unfold rowE; rw [if_neg e20, if_neg e21, if_neg e22, if_neg e23, if_neg e24, if_neg e25, if_neg e26, if_neg e27, if_neg e28, if_neg e29, if_neg e30, if_neg e31, if_neg e32, if_neg e33, if_neg e34, if_neg e35, if_neg e36, if_neg e37]
      rw [h, e]; exact ef_no (t := 73) (by decide) m p kk _ _ w
  · rw [if_neg h, if_neg h]; exact ef_no (t := 73) (by decide) m p kk _ _ w

set_option maxRecDepth 100000 in
set_option maxHeartbeats 4000000 in
theorem entryFits_any (m : PM) (p : Nat) (kk : Option Addr) (q : Nat → Option PX) (w : World) (hk : ValsAt w kk (knP m.toPD) (fun j => pv (q j))) (hz : ∀ i, i < m.nn → (m.nm i).size ≤ 1048576) (htx : m.text.size ≤ 1048576) (hm : StrsAt w m.na m.nn m.nm) :
    Calls Try.prog 29 #[.iface (ptT m.toPD) (.agg #[.int .i64 p, .int .i64 m.kind, .int .i64 m.frm, .int .i64 m.tto, .int .i64 m.line, .int .i64 m.op, .int .i64 m.num, .float .f64 m.flt, .string m.text, .slice m.na m.nn m.nc, .slice m.ka m.nk m.kc, .slice kk (knP m.toPD) (knP m.toPD)])] w fun e w' => e = .returned (.bool (enB m.toPD q)) ∧ Onw w w' := by
  unfold enB ptT
  by_cases h : slimP m.toPD
  · rw [if_pos h, if_pos h]
    have hkn : knP m.toPD = m.nk := by unfold knP; rw [if_pos h]
    have hn : m.nk ≤ 1048576 := Nat.le_trans h.1 (by omega)
    have hnn : m.nn ≤ 1048576 := Nat.le_trans h.2 (by omega)
    rw [hkn] at hk ⊢
    have step : ∀ K, m.kind = K → (Calls Try.prog 29 #[.iface (partT K) (.agg #[.int .i64 p, .int .i64 m.kind, .int .i64 m.frm, .int .i64 m.tto, .int .i64 m.line, .int .i64 m.op, .int .i64 m.num, .float .f64 m.flt, .string m.text, .slice m.na m.nn m.nc, .slice m.ka m.nk m.kc, .slice kk m.nk m.nk])] w fun e w' => e = .returned (.bool (rowN K m.toPD m.nk q)) ∧ Onw w w') → Calls Try.prog 29 #[.iface (partT m.kind) (.agg #[.int .i64 p, .int .i64 m.kind, .int .i64 m.frm, .int .i64 m.tto, .int .i64 m.line, .int .i64 m.op, .int .i64 m.num, .float .f64 m.flt, .string m.text, .slice m.na m.nn m.nc, .slice m.ka m.nk m.kc, .slice kk m.nk m.nk])] w fun e w' => e = .returned (.bool (rowN m.kind m.toPD m.nk q)) ∧ Onw w w' := by
      intro K h s
      rw [congrArg partT h, congrArg (fun k => rowN k m.toPD m.nk q) h]; exact s
    rcases kinds_all m.kind with h | h | h | h | h | h | h | h | h | h | h | h | h | h | h | h | h | h | h | h | h | h | h | h | h | h | h | h | h | h | h | h | h | h | h | h | h | ⟨h, _, h2⟩
    · exact step _ h (nf_no (t := 81) (by decide) m p kk _ _ w)
    · exact step _ h (nf_no (t := 84) (by decide) m p kk _ _ w)
    · exact step _ h (nf_no (t := 85) (by decide) m p kk _ _ w)
    · exact step _ h (nf_no (t := 87) (by decide) m p kk _ _ w)
    · exact step _ h (nf_no (t := 88) (by decide) m p kk _ _ w)
    · exact step _ h (nf_no (t := 90) (by decide) m p kk _ _ w)
    · exact step _ h (nf_no (t := 90) (by decide) m p kk _ _ w)
    · exact step _ h (nf_no (t := 91) (by decide) m p kk _ _ w)
    · exact step _ h (nf_no (t := 92) (by decide) m p kk _ _ w)
    · exact step _ h (nf_no (t := 93) (by decide) m p kk _ _ w)
    · exact step _ h (nf_no (t := 94) (by decide) m p kk _ _ w)
    · exact step _ h (nf_no (t := 95) (by decide) m p kk _ _ w)
    · exact step _ h (nf_no (t := 95) (by decide) m p kk _ _ w)
    · exact step _ h (nf_no (t := 96) (by decide) m p kk _ _ w)
    · exact step _ h (nf_no (t := 97) (by decide) m p kk _ _ w)
    · exact step _ h (nf_no (t := 98) (by decide) m p kk _ _ w)
    · exact step _ h (nf_no (t := 100) (by decide) m p kk _ _ w)
    · exact step _ h (nf_no (t := 100) (by decide) m p kk _ _ w)
    · exact step _ h (nf_no (t := 100) (by decide) m p kk _ _ w)
    · exact step _ h (nf_no (t := 102) (by decide) m p kk _ _ w)
    · exact step _ h (nf_no (t := 103) (by decide) m p kk _ _ w)
    · exact step _ h (nf_no (t := 105) (by decide) m p kk _ _ w)
    · exact step _ h (nf_no (t := 106) (by decide) m p kk _ _ w)
    · exact step _ h (nf_no (t := 101) (by decide) m p kk _ _ w)
    · exact step _ h (nf_no (t := 107) (by decide) m p kk _ _ w)
    · exact step _ h (nf_no (t := 107) (by decide) m p kk _ _ w)
    · exact step _ h (nf_no (t := 108) (by decide) m p kk _ _ w)
    · exact step _ h (nf_no (t := 109) (by decide) m p kk _ _ w)
    · exact step _ h (nf_no (t := 110) (by decide) m p kk _ _ w)
    · exact step _ h (nf_no (t := 111) (by decide) m p kk _ _ w)
    · exact step _ h (nf_no (t := 112) (by decide) m p kk _ _ w)
    · exact step _ h (nf_no (t := 113) (by decide) m p kk _ _ w)
    · exact step _ h (nf_no (t := 114) (by decide) m p kk _ _ w)
    · exact step _ h (nf_no (t := 116) (by decide) m p kk _ _ w)
    · exact step _ h (nf_item m p kk _ _ q w ⟨hn, hk, Nat.le_refl _, hnn, hz, htx, hm⟩)
    · exact step _ h (nf_pair m p kk _ _ q w ⟨hn, hk, Nat.le_refl _, hnn, hz, htx, hm⟩)
    · exact step _ h (nf_named m p kk _ _ q w ⟨hn, hk, Nat.le_refl _, hnn, hz, htx, hm⟩)
    · have e : rowN m.kind m.toPD m.nk q = false := by
        obtain ⟨e1, e2, e3, e4, e5, e6, e16, e7, e8, e9, e10, e11, e12, e13, e14, e15, e20, e21, e22, e23, e24, e25, e26, e27, e28, e29, e30, e31, e32, e33, e34, e35, e36, e37, e40, e41, e42⟩ := h2
        unfold rowN; rw [if_neg e40, if_neg e41, if_neg e42]
      rw [h, e]; exact nf_no (t := 73) (by decide) m p kk _ _ w
  · rw [if_neg h, if_neg h]; exact nf_no (t := 73) (by decide) m p kk _ _ w
end Go.Proofs.Ytnokgdgikdgaeaa

namespace Go.Proofs.Ytnokgdgikdgaeaa
open Go.RowKit
attribute [local go_sem] run_store_float

theorem field_part (v0 v1 v2 v3 v4 v5 v6 v7 v8 v9 v10 v11 : Value) (w : World) : Sem.run Try.prog (Instr.field 60 (.agg #[v0, v1, v2, v3, v4, v5, v6, v7, v8, v9, v10, v11]) 1) w = .ok (.agg #[v1, v2, v3, v4, v5, v6, v7, v8, v9, v10]) w := by kernel_rfl
theorem field_kids (v0 v1 v2 v3 v4 v5 v6 v7 v8 v9 v10 : Value) (a : Option Addr) (n c : Nat) (w : World) : Sem.run Try.prog (Instr.field 60 (.agg #[v0, v1, v2, v3, v4, v5, v6, v7, v8, v9, v10, .slice a n c]) 2) w = .ok (.slice a n c) w := by kernel_rfl
theorem field_place (v1 v2 v3 v4 v5 v6 v7 v8 v9 v10 v11 : Value) (p : Int) (w : World) : Sem.run Try.prog (Instr.field 60 (.agg #[.int .i64 p, v1, v2, v3, v4, v5, v6, v7, v8, v9, v10, v11]) 0) w = .ok (.int .i64 p) w := by kernel_rfl
theorem call_least_s (v : Value) (w : World) : Sem.run Try.prog (callFunc 81 #[v]) w = .ok (.enter 81 #[v]) w := by kernel_rfl
theorem call_least_p (v : Value) (w : World) : Sem.run Try.prog (callFunc 78 #[v]) w = .ok (.enter 78 #[v]) w := by kernel_rfl
def leastP (d : PD) : Int := @ite _ (slimP d) (slimD d) (if statP d.kind then 1 else 0) 0
theorem least_cases (d : PD) : leastFn d = 81 ∧ leastP d = 1 ∨ leastFn d = 78 ∧ leastP d = 0 := by
  unfold leastFn leastP leastK
  by_cases h : slimP d
  · rw [if_pos h, if_pos h]
    by_cases k : 1 ≤ d.kind ∧ d.kind ≤ 16
    · exact Or.inl ⟨if_pos k, if_pos (by unfold statP; simp; omega)⟩
    · exact Or.inr ⟨if_neg k, if_neg (by unfold statP; simp; omega)⟩
  · rw [if_neg h, if_neg h]; exact Or.inr ⟨rfl, rfl⟩
theorem call_least (d : PD) (v : Value) (w : World) : Sem.run Try.prog (callFunc (leastFn d) #[v]) w = .ok (.enter (leastFn d) #[v]) w := by
  rcases least_cases d with ⟨h, _⟩ | ⟨h, _⟩
  · rw [h]; exact call_least_s v w
  · rw [h]; exact call_least_p v w
theorem least_any (m : PM) (p : Int) (kk : Option Addr) (kn kc : Nat) (w : World) :
    Calls Try.prog (leastFn m.toPD) #[.agg #[.int .i64 p, .int .i64 m.kind, .int .i64 m.frm, .int .i64 m.tto, .int .i64 m.line, .int .i64 m.op, .int .i64 m.num, .float .f64 m.flt, .string m.text, .slice m.na m.nn m.nc, .slice m.ka m.nk m.kc, .slice kk kn kc]] w fun e w' => e = .returned (.int .i64 (leastP m.toPD)) ∧ Onw w w' := by
  rcases least_cases m.toPD with ⟨h, h2⟩ | ⟨h, h2⟩
  · rw [h, h2]; exact leastLine_statementHeader m p kk kn kc w
  · rw [h, h2]; exact leastLine_partHeader m p kk kn kc w

def placeP (d : PD) : Bool := decide (0 ≤ d.frm) && (decide (d.frm ≤ d.tto) && (decide (leastP d ≤ d.line) && decide (d.line ≤ 100000)))
set_option maxRecDepth 100000 in
set_option maxHeartbeats 2000000 in
theorem placeFits_any (m : PM) (p : Int) (kk : Option Addr) (kn kc : Nat) (w : World) :
    Calls Try.prog 26 #[.iface (ptT m.toPD) (.agg #[.int .i64 p, .int .i64 m.kind, .int .i64 m.frm, .int .i64 m.tto, .int .i64 m.line, .int .i64 m.op, .int .i64 m.num, .float .f64 m.flt, .string m.text, .slice m.na m.nn m.nc, .slice m.ka m.nk m.kc, .slice kk kn kc])] w fun e w' => e = .returned (.bool (placeP m.toPD)) ∧ Onw w w' := by
  have fin : Hid (placeP m.toPD = (decide (0 ≤ m.frm) && (decide (m.frm ≤ m.tto) && (decide (leastP m.toPD ≤ m.line) && decide (m.line ≤ 100000))))) := rfl
  have mt := meth_top m.toPD
  unfold MethOk at mt
  have ml := meth_leastLine m.toPD
  unfold MethOk at ml
  have fp := field_part
  rcases least_cases m.toPD with ⟨e1, e2⟩ | ⟨e1, e2⟩
  · rw [e2] at fin
    rw [e1] at ml
    clear e1 e2
    go_enter Try.func26, Try.ntmps26
    go_wp2_with fail
    refine (top_any m p kk kn kc _).mono ?_
    rintro e w1 ⟨rfl, hb1⟩
    have B := Blk.new w1 41 #[.int .i64 m.kind, .int .i64 m.frm, .int .i64 m.tto, .int .i64 m.line, .int .i64 m.op, .int .i64 m.num, .float .f64 m.flt, .string m.text, .slice m.na m.nn m.nc, .slice m.ka m.nk m.kc]
    have O := hb1.trans (Onw.alloc w1 (Obj.cells #[.int .i64 m.kind, .int .i64 m.frm, .int .i64 m.tto, .int .i64 m.line, .int .i64 m.op, .int .i64 m.num, .float .f64 m.flt, .string m.text, .slice m.na m.nn m.nc, .slice m.ka m.nk m.kc] 41))
    go_wp2_with fail
    generalize w1.alloc (Obj.cells #[.int .i64 m.kind, .int .i64 m.frm, .int .i64 m.tto, .int .i64 m.line, .int .i64 m.op, .int .i64 m.num, .float .f64 m.flt, .string m.text, .slice m.na m.nn m.nc, .slice m.ka m.nk m.kc] 41) = w2 at *
    have c1 : w2.cell? ⟨w1.heap.size, 1, none⟩ = some (.int .i64 m.frm) := by rw [B.cell]; rfl
    have c2 : w2.cell? ⟨w1.heap.size, 2, none⟩ = some (.int .i64 m.tto) := by rw [B.cell]; rfl
    have c3 : w2.cell? ⟨w1.heap.size, 3, none⟩ = some (.int .i64 m.line) := by rw [B.cell]; rfl
    by_cases h1 : 0 ≤ m.frm
    · have d1 := decide_eq_true h1
      by_cases h2 : m.frm ≤ m.tto
      · have d2 := decide_eq_true h2
        by_cases h3 : (1 : Int) ≤ m.line
        · have d3 := decide_eq_true h3
          go_region_held3 (fun w' => w'.cell? ⟨w1.heap.size, 1, none⟩ = some (.int .i64 m.frm) ∧ w'.cell? ⟨w1.heap.size, 2, none⟩ = some (.int .i64 m.tto) ∧ w'.cell? ⟨w1.heap.size, 3, none⟩ = some (.int .i64 m.line)) (go_keep)
            (first | (go_at_call 81; refine (leastLine_statementHeader m p kk kn kc _).mono ?_; rintro e w3 ⟨rfl, hb2⟩; have O1 : Onw w2 w3 := Onw.trans (Below.drew (Onw.refl _)) hb2; have q1 := cell_onw O1 c1; have q2 := cell_onw O1 c2; have q3 := cell_onw O1 c3))
          all_goals
            go_wp2_with fail
            go_ret
            exact ⟨ret_bool (by rw [fin.out, d1, d2, d3]; rfl), by first | exact O.trans O1 | exact Below.drew (O.trans O1)⟩
        · have d3 := decide_eq_false h3
          first
            | (go_region_with (first | (go_at_call 81; refine (leastLine_statementHeader m p kk kn kc _).mono ?_; rintro e w3 ⟨rfl, hb2⟩; have O1 : Onw w2 w3 := Onw.trans (Below.drew (Onw.refl _)) hb2; have q1 := cell_onw O1 c1; have q2 := cell_onw O1 c2; have q3 := cell_onw O1 c3)))
            | fail
          all_goals
            go_wp2_with fail
            go_ret
            exact ⟨ret_bool (by rw [fin.out, d1, d2, d3]; rfl), by first | exact O.trans O1 | exact Below.drew (O.trans O1)⟩
      · have d2 := decide_eq_false h2
        go_quiet (fail)
        go_wp2_with fail
        go_ret
        exact ⟨ret_bool (by rw [fin.out, d1, d2]; rfl), below_drewN O _⟩
    · have d1 := decide_eq_false h1
      go_quiet (fail)
      go_wp2_with fail
      go_ret
      exact ⟨ret_bool (by rw [fin.out, d1]; rfl), below_drewN O _⟩
  · rw [e2] at fin
    rw [e1] at ml
    clear e1 e2
    go_enter Try.func26, Try.ntmps26
    go_wp2_with fail
    refine (top_any m p kk kn kc _).mono ?_
    rintro e w1 ⟨rfl, hb1⟩
    have B := Blk.new w1 41 #[.int .i64 m.kind, .int .i64 m.frm, .int .i64 m.tto, .int .i64 m.line, .int .i64 m.op, .int .i64 m.num, .float .f64 m.flt, .string m.text, .slice m.na m.nn m.nc, .slice m.ka m.nk m.kc]
    have O := hb1.trans (Onw.alloc w1 (Obj.cells #[.int .i64 m.kind, .int .i64 m.frm, .int .i64 m.tto, .int .i64 m.line, .int .i64 m.op, .int .i64 m.num, .float .f64 m.flt, .string m.text, .slice m.na m.nn m.nc, .slice m.ka m.nk m.kc] 41))
    go_wp2_with fail
    generalize w1.alloc (Obj.cells #[.int .i64 m.kind, .int .i64 m.frm, .int .i64 m.tto, .int .i64 m.line, .int .i64 m.op, .int .i64 m.num, .float .f64 m.flt, .string m.text, .slice m.na m.nn m.nc, .slice m.ka m.nk m.kc] 41) = w2 at *
    have c1 : w2.cell? ⟨w1.heap.size, 1, none⟩ = some (.int .i64 m.frm) := by rw [B.cell]; rfl
    have c2 : w2.cell? ⟨w1.heap.size, 2, none⟩ = some (.int .i64 m.tto) := by rw [B.cell]; rfl
    have c3 : w2.cell? ⟨w1.heap.size, 3, none⟩ = some (.int .i64 m.line) := by rw [B.cell]; rfl
    by_cases h1 : 0 ≤ m.frm
    · have d1 := decide_eq_true h1
      by_cases h2 : m.frm ≤ m.tto
      · have d2 := decide_eq_true h2
        by_cases h3 : (0 : Int) ≤ m.line
        · have d3 := decide_eq_true h3
          go_region_held3 (fun w' => w'.cell? ⟨w1.heap.size, 1, none⟩ = some (.int .i64 m.frm) ∧ w'.cell? ⟨w1.heap.size, 2, none⟩ = some (.int .i64 m.tto) ∧ w'.cell? ⟨w1.heap.size, 3, none⟩ = some (.int .i64 m.line)) (go_keep)
            (first | (go_at_call 78; refine (leastLine_partHeader m p kk kn kc _).mono ?_; rintro e w3 ⟨rfl, hb2⟩; have O1 : Onw w2 w3 := Onw.trans (Below.drew (Onw.refl _)) hb2; have q1 := cell_onw O1 c1; have q2 := cell_onw O1 c2; have q3 := cell_onw O1 c3))
          all_goals
            go_wp2_with fail
            go_ret
            exact ⟨ret_bool (by rw [fin.out, d1, d2, d3]; rfl), by first | exact O.trans O1 | exact Below.drew (O.trans O1)⟩
        · have d3 := decide_eq_false h3
          first
            | (go_region_with (first | (go_at_call 78; refine (leastLine_partHeader m p kk kn kc _).mono ?_; rintro e w3 ⟨rfl, hb2⟩; have O1 : Onw w2 w3 := Onw.trans (Below.drew (Onw.refl _)) hb2; have q1 := cell_onw O1 c1; have q2 := cell_onw O1 c2; have q3 := cell_onw O1 c3)))
            | fail
          all_goals
            go_wp2_with fail
            go_ret
            exact ⟨ret_bool (by rw [fin.out, d1, d2, d3]; rfl), by first | exact O.trans O1 | exact Below.drew (O.trans O1)⟩
      · have d2 := decide_eq_false h2
        go_quiet (fail)
        go_wp2_with fail
        go_ret
        exact ⟨ret_bool (by rw [fin.out, d1, d2]; rfl), below_drewN O _⟩
    · have d1 := decide_eq_false h1
      go_quiet (fail)
      go_wp2_with fail
      go_ret
      exact ⟨ret_bool (by rw [fin.out, d1]; rfl), below_drewN O _⟩
end Go.Proofs.Ytnokgdgikdgaeaa

namespace Go.Proofs.Ytnokgdgikdgaeaa
open Go.RowKit
attribute [local go_sem] run_store_float

set_option maxRecDepth 100000 in
set_option maxHeartbeats 2000000 in
theorem l6kid_any (t : TM) (m : PM) (i : Nat) (w : World) (hn : t.np ≤ 1048576) (hi : i < m.nk) (hk : m.nk ≤ 1048576) (h0 : 0 ≤ m.kd i) (h1 : m.kd i < t.np) (ht : t.At w) (hm : IntsAt w m.ka m.nk m.kd) :
    Calls Try.prog 33 #[.agg #[.slice t.pa t.np t.pc], .agg #[.int .i64 m.kind, .int .i64 m.frm, .int .i64 m.tto, .int .i64 m.line, .int .i64 m.op, .int .i64 m.num, .float .f64 m.flt, .string m.text, .slice m.na m.nn m.nc, .slice m.ka m.nk m.kc], .int .i64 i] w fun e w' => e = .returned (.int .i64 (kidP (pdOf t.pm) m.toPD i)) ∧ Onw w w' := by
  obtain ⟨np, pm, pa, pc⟩ := t
  simp only at *
  obtain ⟨q, hq⟩ := Int.eq_ofNat_of_zero_le h0
  have hqn : q < np := by omega
  obtain ⟨b, off, hpa, hc⟩ := ht.1 (by show 0 < np; omega)
  simp only at hpa
  subst hpa
  have c0 := (hc q hqn).c0
  obtain ⟨kb, ko, hka, hcc⟩ := hm (by omega)
  have k0 := hcc i hi
  have fin : Hid (kidP (pdOf pm) m.toPD i = (pm q).kind) := by show _ = _; unfold kidP pdOf; rw [hq]; rfl
  rw [hq] at k0
  have i0 : (0 : Int) ≤ (i : Int) := by omega
  have i1 : (i : Int) < (m.nk : Int) := by omega
  have q0 : (0 : Int) ≤ (q : Int) := by omega
  have q1 : (q : Int) < (np : Int) := by omega
  have z1 := cell_lt c0
  have z2 := cell_lt k0
  simp only at c0
  rw [hka]
  clear hc hcc hq h0 h1 hka hm ht
  go_enter Try.func33, Try.ntmps33
  go_wp2_with fail
  go_quiet (fail)
  go_wp2_with fail
  go_ret
  exact ⟨ret_int fin.out.symm, below_drewN ((Onw.alloc _ _).trans (Onw.alloc _ _)) _⟩

set_option maxRecDepth 100000 in
set_option maxHeartbeats 2000000 in
theorem l6exprs_any (t : TM) (m : PM) (i k : Nat) (w : World) (hn : t.np ≤ 1048576) (hik : i ≤ k) (hkk : k ≤ m.nk) (hk : m.nk ≤ 1048576) (hr : ∀ j, j < m.nk → 0 ≤ m.kd j ∧ m.kd j < t.np) (ht : t.At w) (hm : IntsAt w m.ka m.nk m.kd) :
    Calls Try.prog 36 #[.agg #[.slice t.pa t.np t.pc], .agg #[.int .i64 m.kind, .int .i64 m.frm, .int .i64 m.tto, .int .i64 m.line, .int .i64 m.op, .int .i64 m.num, .float .f64 m.flt, .string m.text, .slice m.na m.nn m.nc, .slice m.ka m.nk m.kc], .int .i64 i, .int .i64 k] w fun e w' => e = .returned (.bool (exprsP (pdOf t.pm) m.toPD i k)) ∧ Onw w w' := by
  obtain ⟨np, pm, pa, pc⟩ := t
  simp only at *
  have HR : Hid _ := hr
  have HT : Hid _ := ht
  clear hr ht
  obtain ⟨KA, hKA⟩ : ∃ KA, m.ka = KA := ⟨_, rfl⟩
  rw [hKA] at hm ⊢
  clear hKA
  have N1 := Blk.new w 31 #[.slice pa np pc]
  have N2 := Blk.new (w.alloc (Obj.cells #[.slice pa np pc] 31)) 41 #[.int .i64 m.kind, .int .i64 m.frm, .int .i64 m.tto, .int .i64 m.line, .int .i64 m.op, .int .i64 m.num, .float .f64 m.flt, .string m.text, .slice m.na m.nn m.nc, .slice KA m.nk m.kc]
  have O2 := Onw.alloc (w.alloc (Obj.cells #[.slice pa np pc] 31)) (Obj.cells #[.int .i64 m.kind, .int .i64 m.frm, .int .i64 m.tto, .int .i64 m.line, .int .i64 m.op, .int .i64 m.num, .float .f64 m.flt, .string m.text, .slice m.na m.nn m.nc, .slice KA m.nk m.kc] 41)
  have N1' := N1.onw O2
  have o2 := (Onw.alloc w (Obj.cells #[.slice pa np pc] 31)).trans O2
  simp only [World.size_alloc] at N2
  clear N1 O2
  go_enter Try.func36, Try.ntmps36
  go_wp2_with fail
  go_loopw [9] (fun x wr => ∃ j : Nat, i ≤ j ∧ j ≤ k ∧ x = .int .i64 j ∧ Onw w wr ∧ Blk wr w.heap.size 31 #[.slice pa np pc] ∧ Blk wr (w.heap.size + 1) 41 #[.int .i64 m.kind, .int .i64 m.frm, .int .i64 m.tto, .int .i64 m.line, .int .i64 m.op, .int .i64 m.num, .float .f64 m.flt, .string m.text, .slice m.na m.nn m.nc, .slice KA m.nk m.kc] ∧ exprsP (pdOf pm) m.toPD i k = allB (fun j => exprP (kidP (pdOf pm) m.toPD j)) j (k - j)) (fun x _ => k - (intOf x).toNat)
  case atStart => exact ⟨i, Nat.le_refl _, hik, rfl, o2, N1', N2, rfl⟩
  case round =>
    clear o2 N1' N2
    obtain ⟨j, hj0, hj, rfl, ob, B1, B2, hq⟩ := hrel
    have HQ : Hid _ := hq
    clear hq
    by_cases hlt : j < k
    · obtain ⟨h0, h1⟩ := HR.out j (by omega)
      obtain ⟨q, hqq⟩ := Int.eq_ofNat_of_zero_le h0
      have hqn : q < np := by omega
      obtain ⟨b, off, hpa, hc⟩ := (PartsAt.onw ob HT.out).1 (by show 0 < np; omega)
      subst hpa
      have c0 := (hc q hqn).c0
      obtain ⟨kb, ko, hka, hcc⟩ := hm.onw ob (by omega)
      subst hka
      have k0 := hcc j (by omega)
      have fin : Hid (kidP (pdOf pm) m.toPD j = (pm q).kind) := by show _ = _; unfold kidP pdOf; rw [hqq]; rfl
      rw [hqq] at k0
      have st : Hid (allB (fun j => exprP (kidP (pdOf pm) m.toPD j)) j (k - j) = (exprP (pm q).kind && allB (fun j => exprP (kidP (pdOf pm) m.toPD j)) (j + 1) (k - (j + 1)))) := by
        show _ = _
        rw [show k - j = (k - (j + 1)) + 1 from by omega, ← fin.out]; rfl
      have i0 : (0 : Int) ≤ (j : Int) := by omega
      have i1 : (j : Int) < (m.nk : Int) := by omega
      have q0 : (0 : Int) ≤ (q : Int) := by omega
      have q1 : (q : Int) < (np : Int) := by omega
      have z1 := cell_lt c0
      have z2 := cell_lt k0
      have x0 : wr.cell? ⟨w.heap.size, 0, none⟩ = some (.slice (some ⟨b, off, none⟩) np pc) := by rw [B1.cell]; rfl
      have x9 : wr.cell? ⟨w.heap.size + 1, 9, none⟩ = some (.slice (some ⟨kb, ko, none⟩) m.nk m.kc) := by rw [B2.cell]; rfl
      clear hc hcc hqq h0 h1
      cases hx : exprP (pm q).kind
      all_goals
        go_wp2_with fail
        go_region_held3 (fun w' => w'.cell? ⟨w.heap.size, 0, none⟩ = some (.slice (some ⟨b, off, none⟩) np pc) ∧ w'.cell? ⟨w.heap.size + 1, 9, none⟩ = some (.slice (some ⟨kb, ko, none⟩) m.nk m.kc) ∧ w'.cell? ⟨kb, ko + j, none⟩ = some (.int .i64 q) ∧ w'.cell? ⟨b, off + q * 10, none⟩ = some (.int .i64 (pm q).kind)) (go_keep)
          (first | (go_at_call 55; refine (l6expr_any _ _).mono ?_; rintro e w1 ⟨rfl, rfl⟩; rw [hx]))
      · go_wp2_with fail
        go_ret
        exact ⟨ret_bool (by rw [HQ.out, st.out, hx]; rfl), Below.drew ob⟩
      · go_wp2_with fail
        go_roundw
        case rel => exact ⟨j + 1, by omega, by omega, by go_num, Below.drew ob, B1.onw (Below.drew (Onw.refl _)), B2.onw (Below.drew (Onw.refl _)), by rw [HQ.out, st.out, hx]; rfl⟩
        case measure => simp [intOf]; omega
    · have st : Hid (allB (fun j => exprP (kidP (pdOf pm) m.toPD j)) j (k - j) = true) := by
        show _ = _
        rw [show k - j = 0 from by omega]; rfl
      go_wp2_with fail
      go_ret
      exact ⟨ret_bool (by rw [HQ.out, st.out]), ob⟩

def namedP (d : PD) (least most : Nat) : Bool := decide (least ≤ d.nn) && decide (d.nn ≤ most) && allB (fun i => nameB (d.nm i)) 0 d.nn

set_option maxRecDepth 100000 in
set_option maxHeartbeats 2000000 in
theorem l6named_any (m : PM) (least most : Nat) (w : World) (hn : m.nn ≤ 1048576) (hz : ∀ i, i < m.nn → (m.nm i).size ≤ 1048576) (hm : StrsAt w m.na m.nn m.nm) :
    Calls Try.prog 35 #[.agg #[.int .i64 m.kind, .int .i64 m.frm, .int .i64 m.tto, .int .i64 m.line, .int .i64 m.op, .int .i64 m.num, .float .f64 m.flt, .string m.text, .slice m.na m.nn m.nc, .slice m.ka m.nk m.kc], .int .i64 least, .int .i64 most] w fun e w' => e = .returned (.bool (namedP m.toPD least most)) ∧ Onw w w' := by
  have HZ : Hid _ := hz
  clear hz
  obtain ⟨NA, hNA⟩ : ∃ NA, m.na = NA := ⟨_, rfl⟩
  rw [hNA] at hm ⊢
  clear hNA
  by_cases h1 : least ≤ m.nn
  · by_cases h2 : m.nn ≤ most
    · have fin : Hid (namedP m.toPD least most = allB (fun i => nameB (m.nm i)) 0 m.nn) := by
        show namedP _ _ _ = _
        unfold namedP
        rw [decide_eq_true (show least ≤ m.toPD.nn from h1), decide_eq_true (show m.toPD.nn ≤ most from h2)]; rfl
      have d1 : decide ((m.nn : Int) < (least : Int)) = false := decide_eq_false (by omega)
      have d1' : (least : Int) ≤ (m.nn : Int) := by omega
      have d2 : decide ((most : Int) < (m.nn : Int)) = false := decide_eq_false (by omega)
      have d2' : (m.nn : Int) ≤ (most : Int) := by omega
      clear h1 h2
      go_enter Try.func35, Try.ntmps35
      go_wp2_with fail
      simp only [show decide (m.nn < least) = false from decide_eq_false (by omega), show decide (most < m.nn) = false from decide_eq_false (by omega), Bool.or_false]
      clear d1 d2 d1' d2'
      go_loopw [24] (fun x wr => ∃ j : Nat, j ≤ m.nn ∧ x = .int .i64 j ∧ Onw w wr ∧ allB (fun i => nameB (m.nm i)) 0 m.nn = allB (fun i => nameB (m.nm i)) j (m.nn - j)) (fun x _ => m.nn - (intOf x).toNat)
      case atStart => exact ⟨0, Nat.zero_le _, rfl, Onw.alloc _ _, rfl⟩
      case round =>
        obtain ⟨j, hj, rfl, ob, hq⟩ := hrel
        have HQ : Hid _ := hq
        clear hq
        by_cases hlt : j < m.nn
        · obtain ⟨b, off, hna, hc⟩ := hm.onw ob (by omega)
          subst hna
          have c0 := hc j hlt
          have st : Hid (allB (fun i => nameB (m.nm i)) j (m.nn - j) = (nameB (m.nm j) && allB (fun i => nameB (m.nm i)) (j + 1) (m.nn - (j + 1)))) := by
            show _ = _
            rw [show m.nn - j = (m.nn - (j + 1)) + 1 from by omega]; rfl
          have hzj := HZ.out j hlt
          clear hc
          go_wp2_with fail
          refine (l6nameok_any _ _ hzj).mono ?_
          rintro e w1 ⟨rfl, O1⟩
          cases hx : nameB (m.nm j)
          · go_wp2_with fail
            go_ret
            exact ⟨ret_bool (by rw [fin.out, HQ.out, st.out, hx]; rfl), ob.trans O1⟩
          · go_wp2_with fail
            go_roundw
            case rel => exact ⟨j + 1, by omega, by go_num, ob.trans O1, by rw [HQ.out, st.out, hx]; rfl⟩
            case measure => simp [intOf]; omega
        · have st : Hid (allB (fun i => nameB (m.nm i)) j (m.nn - j) = true) := by
            show _ = _
            rw [show m.nn - j = 0 from by omega]; rfl
          go_wp2_with fail
          go_ret
          exact ⟨ret_bool (by rw [fin.out, HQ.out, st.out]), ob⟩
    · have fin : Hid (namedP m.toPD least most = false) := by
        show namedP _ _ _ = _
        unfold namedP
        rw [decide_eq_false (show ¬ m.toPD.nn ≤ most from h2)]; simp
      have d1 : decide ((m.nn : Int) < (least : Int)) = false := decide_eq_false (by omega)
      have d1' : (least : Int) ≤ (m.nn : Int) := by omega
      have d2 : (most : Int) < (m.nn : Int) := by omega
      clear h1 h2
      go_enter Try.func35, Try.ntmps35
      go_wp2_with fail
      go_ret
      exact ⟨ret_bool fin.out.symm, Onw.alloc _ _⟩
  · have fin : Hid (namedP m.toPD least most = false) := by
      show namedP _ _ _ = _
      unfold namedP
      rw [decide_eq_false (show ¬ least ≤ m.toPD.nn from h1)]; simp
    have d1 : (m.nn : Int) < (least : Int) := by omega
    clear h1
    go_enter Try.func35, Try.ntmps35
    go_wp2_with fail
    go_ret
    exact ⟨ret_bool fin.out.symm, Onw.alloc _ _⟩
end Go.Proofs.Ytnokgdgikdgaeaa

namespace Go.Proofs.Ytnokgdgikdgaeaa
open Go.RowKit

/-- A tree and a part, where a function of the model keeps them. -/
structure Two (w : World) (a : Nat) (pa : Option Addr) (np pc : Nat) (kind frm tto line op num : Int) (flt : Nat) (text : ByteArray) (na : Option Addr) (nn nc : Nat) (ka : Option Addr) (nk kc : Nat) : Prop where
  t0 : w.cell? ⟨a, 0, none⟩ = some (.slice pa np pc)
  c0 : w.cell? ⟨a + 1, 0, none⟩ = some (.int .i64 kind)
  c1 : w.cell? ⟨a + 1, 1, none⟩ = some (.int .i64 frm)
  c2 : w.cell? ⟨a + 1, 2, none⟩ = some (.int .i64 tto)
  c3 : w.cell? ⟨a + 1, 3, none⟩ = some (.int .i64 line)
  c4 : w.cell? ⟨a + 1, 4, none⟩ = some (.int .i64 op)
  c5 : w.cell? ⟨a + 1, 5, none⟩ = some (.int .i64 num)
  c6 : w.cell? ⟨a + 1, 6, none⟩ = some (.float .f64 flt)
  c7 : w.cell? ⟨a + 1, 7, none⟩ = some (.string text)
  c8 : w.cell? ⟨a + 1, 8, none⟩ = some (.slice na nn nc)
  c9 : w.cell? ⟨a + 1, 9, none⟩ = some (.slice ka nk kc)
/-- What is asked of a tree and a part. -/
structure Prm (w : World) (np : Nat) (pm : Nat → PM) (pa : Option Addr) (pc : Nat) (m : PM) : Prop where
  hn : np ≤ 1048576
  hk : m.nk ≤ 1048576
  hnn : m.nn ≤ 1048576
  htx : m.text.size ≤ 1048576
  hr : ∀ j, j < m.nk → 0 ≤ m.kd j ∧ m.kd j < np
  hz : ∀ i, i < m.nn → (m.nm i).size ≤ 1048576
  ht : TM.At w ⟨np, pm, pa, pc⟩
  hm : PM.At w m
theorem Two.onw {w w' : World} {a pa np pc kind frm tto line op num flt text na nn nc ka nk kc} (h : Two w a pa np pc kind frm tto line op num flt text na nn nc ka nk kc) (hb : Onw w w') : Two w' a pa np pc kind frm tto line op num flt text na nn nc ka nk kc :=
  ⟨cell_onw hb h.t0, cell_onw hb h.c0, cell_onw hb h.c1, cell_onw hb h.c2, cell_onw hb h.c3, cell_onw hb h.c4, cell_onw hb h.c5, cell_onw hb h.c6, cell_onw hb h.c7, cell_onw hb h.c8, cell_onw hb h.c9⟩
theorem Two.new (w : World) (pa : Option Addr) (np pc : Nat) (kind frm tto line op num : Int) (flt : Nat) (text : ByteArray) (na : Option Addr) (nn nc : Nat) (ka : Option Addr) (nk kc : Nat) :
    Two ((w.alloc (Obj.cells #[.slice pa np pc] 31)).alloc (Obj.cells #[.int .i64 kind, .int .i64 frm, .int .i64 tto, .int .i64 line, .int .i64 op, .int .i64 num, .float .f64 flt, .string text, .slice na nn nc, .slice ka nk kc] 41)) w.heap.size pa np pc kind frm tto line op num flt text na nn nc ka nk kc := by
  have N1 := (Blk.new w 31 #[.slice pa np pc]).onw (Onw.alloc _ (Obj.cells #[.int .i64 kind, .int .i64 frm, .int .i64 tto, .int .i64 line, .int .i64 op, .int .i64 num, .float .f64 flt, .string text, .slice na nn nc, .slice ka nk kc] 41))
  have N2 := Blk.new (w.alloc (Obj.cells #[.slice pa np pc] 31)) 41 #[.int .i64 kind, .int .i64 frm, .int .i64 tto, .int .i64 line, .int .i64 op, .int .i64 num, .float .f64 flt, .string text, .slice na nn nc, .slice ka nk kc]
  simp only [World.size_alloc] at N2
  constructor
  · rw [N1.cell]; rfl
  all_goals (rw [N2.cell]; rfl)
theorem Two.start (w : World) (pa : Option Addr) (np pc : Nat) (kind frm tto line op num : Int) (flt : Nat) (text : ByteArray) (na : Option Addr) (nn nc : Nat) (ka : Option Addr) (nk kc : Nat) :
    Onw w ((w.alloc (Obj.cells #[.slice pa np pc] 31)).alloc (Obj.cells #[.int .i64 kind, .int .i64 frm, .int .i64 tto, .int .i64 line, .int .i64 op, .int .i64 num, .float .f64 flt, .string text, .slice na nn nc, .slice ka nk kc] 41)) :=
  (Onw.alloc _ _).trans (Onw.alloc _ _)
end Go.Proofs.Ytnokgdgikdgaeaa
