import Derived.Test.YtnokgdgikdgaeaaP06
import Derived.Test.YtnokgdgikdgaeaaP07
import Derived.Test.YtnokgdgikdgaeaaP08
import Derived.Test.YtnokgdgikdgaeaaP09
namespace Go.Proofs.Ytnokgdgikdgaeaa
open Go.RowKit
attribute [local go_sem] run_store_float

def rowS (k : Int) (m : PD) (kn : Nat) (q : Nat → Option PX) : Bool :=
  if k = 1 then usesP m false false false false false && (standR 1 kn q) else
  if k = 2 then declP m 1 200 && (standR 8 kn q) else
  if k = 3 then declP m 1 1 && (kidsR [8] kn q) else
  if k = 4 then declP m 1 1 && (kidsR [256] kn q) else
  if k = 5 then usesP m false true false false false && (targetsR m kn q) else
  if k = 6 then usesP m false false false false false && (kidsR [32] kn q) else
  if k = 16 then usesP m false false false false false && (kidsR [32] kn q) else
  if k = 7 then usesP m false false false false false && ((kidsR [8, 2] kn q || kidsR [8, 2, 4] kn q)) else
  if k = 8 then usesP m false false false false false && (kidsR [8, 2] kn q) else
  if k = 9 then declP m 1 1 && ((kidsR [8, 8, 2] kn q || kidsR [8, 8, 8, 2] kn q)) else
  if k = 10 then declP m 1 200 && (kidsR [8, 2] kn q) else
  if k = 11 then usesP m false false false false false && (kidsR [] kn q) else
  if k = 12 then usesP m false false false false false && (kidsR [] kn q) else
  if k = 13 then usesP m false false false false false && (standR 8 kn q) else
  if k = 14 then declP m 1 2 && (kidsR [2, 2] kn q) else
  if k = 15 then usesP m false false false false false && (kidsR [8] kn q) else
  false
def stB (d : PD) (q : Nat → Option PX) : Bool := if slimP d then rowS d.kind d (knP d) q else false
def rowE (k : Int) (m : PD) (kn : Nat) (q : Nat → Option PX) : Bool :=
  if k = 20 then usesP m false false false false false && (kidsR [] kn q) else
  if k = 21 then usesP m false false false false false && (kidsR [] kn q) else
  if k = 22 then usesP m false false false false false && (kidsR [] kn q) else
  if k = 23 then usesP m false true false false false && (kidsR [] kn q) else
  if k = 24 then usesP m false false true false false && (fnum m.flt && (kidsR [] kn q)) else
  if k = 25 then usesP m false false false true false && (decide ((m.text.size : Int) ≤ 4000) && (kidsR [] kn q)) else
  if k = 26 then usesP m false false false true false && (nameB m.text && (kidsR [] kn q)) else
  if k = 27 then usesP m false false false false false && (kidsR [] kn q) else
  if k = 28 then usesP m false false false false false && (kidsR [8, 8] kn q) else
  if k = 29 then usesP m false false false false false && (kidsR [8, 8] kn q) else
  if k = 30 then usesP m true false false false false && (decide ((19 : Int) ≤ m.op) && (decide (m.op ≤ 22) && (kidsR [8] kn q))) else
  if k = 31 then usesP m true false false false false && (decide ((1 : Int) ≤ m.op) && (decide (m.op ≤ 18) && (kidsR [8, 8] kn q))) else
  if k = 32 then usesP m false false false false false && (kidsR [16, 8] kn q) else
  if k = 33 then usesP m false false false true false && (nameB m.text && (kidsR [16] kn q)) else
  if k = 34 then usesP m false false false false false && ((decide ((1 : Int) ≤ kn) && (standR 16 1 q && standR 8 (kn - 1) (fun i => q (1 + i))))) else
  if k = 35 then usesP m false false false false false && (standR 512 kn q) else
  if k = 36 then usesP m true false false false true && ((m.op == 0 || m.op == 1) && (allB (fun i => nameB (m.nm i)) 0 m.nn && (kidsR [2] kn q))) else
  if k = 37 then usesP m false false false false false && (kidsR [64] kn q) else
  false
def exB (d : PD) (q : Nat → Option PX) : Bool := if slimP d then rowE d.kind d (knP d) q else false
def rowN (k : Int) (m : PD) (kn : Nat) (q : Nat → Option PX) : Bool :=
  if k = 40 then usesP m false false false false false && (kidsR [8] kn q) else
  if k = 41 then usesP m false false false false false && (kidsR [8, 8] kn q) else
  if k = 42 then usesP m false false false true false && (nameB m.text && (kidsR [8] kn q)) else
  false
def enB (d : PD) (q : Nat → Option PX) : Bool := if slimP d then rowN d.kind d (knP d) q else false

set_option maxRecDepth 100000 in
set_option maxHeartbeats 4000000 in
theorem statementFits_any (m : PM) (p : Nat) (kk : Option Addr) (q : Nat → Option PX) (w : World) (hk : ValsAt w kk (knP m.toPD) (fun j => pv (q j))) (hz : ∀ i, i < m.nn → (m.nm i).size ≤ 1048576) (htx : m.text.size ≤ 1048576) (hm : StrsAt w m.na m.nn m.nm) :
    Calls Try.prog 27 #[.iface (ptT m.toPD) (.agg #[.int .i64 p, .int .i64 m.kind, .int .i64 m.frm, .int .i64 m.tto, .int .i64 m.line, .int .i64 m.op, .int .i64 m.num, .float .f64 m.flt, .string m.text, .slice m.na m.nn m.nc, .slice m.ka m.nk m.kc, .slice kk (knP m.toPD) (knP m.toPD)])] w fun e w' => e = .returned (.bool (stB m.toPD q)) ∧ Onw w w' := by
  unfold stB ptT
  by_cases h : slimP m.toPD
  · rw [if_pos h, if_pos h]
    have hkn : knP m.toPD = m.nk := by unfold knP; rw [if_pos h]
    have hn : m.nk ≤ 1048576 := Nat.le_trans h.1 (by omega)
    have hnn : m.nn ≤ 1048576 := Nat.le_trans h.2 (by omega)
    rw [hkn] at hk ⊢
    rcases kinds_all m.kind with h | h | h | h | h | h | h | h | h | h | h | h | h | h | h | h | h | h | h | h | h | h | h | h | h | h | h | h | h | h | h | h | h | h | h | h | h | ⟨h, _, h2⟩
    · have e1 : partT m.kind = 81 := by rw [h]; rfl
      have e2 : rowS m.kind m.toPD m.nk q = (usesP m.toPD false false false false false && (standR 1 m.nk q)) := by rw [h]; rfl
      rw [e1, e2]; exact sf_block m p kk _ _ q w hn hk (Nat.le_refl _) hnn hz htx hm
    · have e1 : partT m.kind = 84 := by rw [h]; rfl
      have e2 : rowS m.kind m.toPD m.nk q = (declP m.toPD 1 200 && (standR 8 m.nk q)) := by rw [h]; rfl
      rw [e1, e2]; exact sf_let m p kk _ _ q w hn hk (Nat.le_refl _) hnn hz htx hm
    · have e1 : partT m.kind = 85 := by rw [h]; rfl
      have e2 : rowS m.kind m.toPD m.nk q = (declP m.toPD 1 1 && (kidsR [8] m.nk q)) := by rw [h]; rfl
      rw [e1, e2]; exact sf_const m p kk _ _ q w hn hk (Nat.le_refl _) hnn hz htx hm
    · have e1 : partT m.kind = 87 := by rw [h]; rfl
      have e2 : rowS m.kind m.toPD m.nk q = (declP m.toPD 1 1 && (kidsR [256] m.nk q)) := by rw [h]; rfl
      rw [e1, e2]; exact sf_ownFn m p kk _ _ q w hn hk (Nat.le_refl _) hnn hz htx hm
    · have e1 : partT m.kind = 88 := by rw [h]; rfl
      have e2 : rowS m.kind m.toPD m.nk q = (usesP m.toPD false true false false false && (targetsR m.toPD m.nk q)) := by rw [h]; rfl
      rw [e1, e2]; exact sf_set m p kk _ _ q w hn hk (Nat.le_refl _) hnn hz htx hm
    · have e1 : partT m.kind = 90 := by rw [h]; rfl
      have e2 : rowS m.kind m.toPD m.nk q = (usesP m.toPD false false false false false && (kidsR [32] m.nk q)) := by rw [h]; rfl
      rw [e1, e2]; exact sf_do m p kk _ _ q w hn hk (Nat.le_refl _) hnn hz htx hm
    · have e1 : partT m.kind = 90 := by rw [h]; rfl
      have e2 : rowS m.kind m.toPD m.nk q = (usesP m.toPD false false false false false && (kidsR [32] m.nk q)) := by rw [h]; rfl
      rw [e1, e2]; exact sf_do m p kk _ _ q w hn hk (Nat.le_refl _) hnn hz htx hm
    · have e1 : partT m.kind = 91 := by rw [h]; rfl
      have e2 : rowS m.kind m.toPD m.nk q = (usesP m.toPD false false false false false && ((kidsR [8, 2] m.nk q || kidsR [8, 2, 4] m.nk q))) := by rw [h]; rfl
      rw [e1, e2]; exact sf_if m p kk _ _ q w hn hk (Nat.le_refl _) hnn hz htx hm
    · have e1 : partT m.kind = 92 := by rw [h]; rfl
      have e2 : rowS m.kind m.toPD m.nk q = (usesP m.toPD false false false false false && (kidsR [8, 2] m.nk q)) := by rw [h]; rfl
      rw [e1, e2]; exact sf_while m p kk _ _ q w hn hk (Nat.le_refl _) hnn hz htx hm
    · have e1 : partT m.kind = 93 := by rw [h]; rfl
      have e2 : rowS m.kind m.toPD m.nk q = (declP m.toPD 1 1 && ((kidsR [8, 8, 2] m.nk q || kidsR [8, 8, 8, 2] m.nk q))) := by rw [h]; rfl
      rw [e1, e2]; exact sf_for m p kk _ _ q w hn hk (Nat.le_refl _) hnn hz htx hm
    · have e1 : partT m.kind = 94 := by rw [h]; rfl
      have e2 : rowS m.kind m.toPD m.nk q = (declP m.toPD 1 200 && (kidsR [8, 2] m.nk q)) := by rw [h]; rfl
      rw [e1, e2]; exact sf_each m p kk _ _ q w hn hk (Nat.le_refl _) hnn hz htx hm
    · have e1 : partT m.kind = 95 := by rw [h]; rfl
      have e2 : rowS m.kind m.toPD m.nk q = (usesP m.toPD false false false false false && (kidsR [] m.nk q)) := by rw [h]; rfl
      rw [e1, e2]; exact sf_jump m p kk _ _ q w hn hk (Nat.le_refl _) hnn hz htx hm
    · have e1 : partT m.kind = 95 := by rw [h]; rfl
      have e2 : rowS m.kind m.toPD m.nk q = (usesP m.toPD false false false false false && (kidsR [] m.nk q)) := by rw [h]; rfl
      rw [e1, e2]; exact sf_jump m p kk _ _ q w hn hk (Nat.le_refl _) hnn hz htx hm
    · have e1 : partT m.kind = 96 := by rw [h]; rfl
      have e2 : rowS m.kind m.toPD m.nk q = (usesP m.toPD false false false false false && (standR 8 m.nk q)) := by rw [h]; rfl
      rw [e1, e2]; exact sf_return m p kk _ _ q w hn hk (Nat.le_refl _) hnn hz htx hm
    · have e1 : partT m.kind = 97 := by rw [h]; rfl
      have e2 : rowS m.kind m.toPD m.nk q = (declP m.toPD 1 2 && (kidsR [2, 2] m.nk q)) := by rw [h]; rfl
      rw [e1, e2]; exact sf_try m p kk _ _ q w hn hk (Nat.le_refl _) hnn hz htx hm
    · have e1 : partT m.kind = 98 := by rw [h]; rfl
      have e2 : rowS m.kind m.toPD m.nk q = (usesP m.toPD false false false false false && (kidsR [8] m.nk q)) := by rw [h]; rfl
      rw [e1, e2]; exact sf_throw m p kk _ _ q w hn hk (Nat.le_refl _) hnn hz htx hm
    · have e1 : partT m.kind = 100 := by rw [h]; rfl
      have e2 : rowS m.kind m.toPD m.nk q = (false) := by rw [h]; rfl
      rw [e1, e2]; exact sf_no (t := 100) ⟨by decide, by decide, by decide, by decide, by decide, by decide, by decide, by decide, by decide, by decide, by decide, by decide, by decide, by decide⟩ m p kk _ _ w
    · have e1 : partT m.kind = 100 := by rw [h]; rfl
      have e2 : rowS m.kind m.toPD m.nk q = (false) := by rw [h]; rfl
      rw [e1, e2]; exact sf_no (t := 100) ⟨by decide, by decide, by decide, by decide, by decide, by decide, by decide, by decide, by decide, by decide, by decide, by decide, by decide, by decide⟩ m p kk _ _ w
    · have e1 : partT m.kind = 100 := by rw [h]; rfl
      have e2 : rowS m.kind m.toPD m.nk q = (false) := by rw [h]; rfl
      rw [e1, e2]; exact sf_no (t := 100) ⟨by decide, by decide, by decide, by decide, by decide, by decide, by decide, by decide, by decide, by decide, by decide, by decide, by decide, by decide⟩ m p kk _ _ w
    · have e1 : partT m.kind = 102 := by rw [h]; rfl
      have e2 : rowS m.kind m.toPD m.nk q = (false) := by rw [h]; rfl
      rw [e1, e2]; exact sf_no (t := 102) ⟨by decide, by decide, by decide, by decide, by decide, by decide, by decide, by decide, by decide, by decide, by decide, by decide, by decide, by decide⟩ m p kk _ _ w
    · have e1 : partT m.kind = 103 := by rw [h]; rfl
      have e2 : rowS m.kind m.toPD m.nk q = (false) := by rw [h]; rfl
      rw [e1, e2]; exact sf_no (t := 103) ⟨by decide, by decide, by decide, by decide, by decide, by decide, by decide, by decide, by decide, by decide, by decide, by decide, by decide, by decide⟩ m p kk _ _ w
    · have e1 : partT m.kind = 105 := by rw [h]; rfl
      have e2 : rowS m.kind m.toPD m.nk q = (false) := by rw [h]; rfl
      rw [e1, e2]; exact sf_no (t := 105) ⟨by decide, by decide, by decide, by decide, by decide, by decide, by decide, by decide, by decide, by decide, by decide, by decide, by decide, by decide⟩ m p kk _ _ w
    · have e1 : partT m.kind = 106 := by rw [h]; rfl
      have e2 : rowS m.kind m.toPD m.nk q = (false) := by rw [h]; rfl
      rw [e1, e2]; exact sf_no (t := 106) ⟨by decide, by decide, by decide, by decide, by decide, by decide, by decide, by decide, by decide, by decide, by decide, by decide, by decide, by decide⟩ m p kk _ _ w
    · have e1 : partT m.kind = 101 := by rw [h]; rfl
      have e2 : rowS m.kind m.toPD m.nk q = (false) := by rw [h]; rfl
      rw [e1, e2]; exact sf_no (t := 101) ⟨by decide, by decide, by decide, by decide, by decide, by decide, by decide, by decide, by decide, by decide, by decide, by decide, by decide, by decide⟩ m p kk _ _ w
    · have e1 : partT m.kind = 107 := by rw [h]; rfl
      have e2 : rowS m.kind m.toPD m.nk q = (false) := by rw [h]; rfl
      rw [e1, e2]; exact sf_no (t := 107) ⟨by decide, by decide, by decide, by decide, by decide, by decide, by decide, by decide, by decide, by decide, by decide, by decide, by decide, by decide⟩ m p kk _ _ w
    · have e1 : partT m.kind = 107 := by rw [h]; rfl
      have e2 : rowS m.kind m.toPD m.nk q = (false) := by rw [h]; rfl
      rw [e1, e2]; exact sf_no (t := 107) ⟨by decide, by decide, by decide, by decide, by decide, by decide, by decide, by decide, by decide, by decide, by decide, by decide, by decide, by decide⟩ m p kk _ _ w
    · have e1 : partT m.kind = 108 := by rw [h]; rfl
      have e2 : rowS m.kind m.toPD m.nk q = (false) := by rw [h]; rfl
      rw [e1, e2]; exact sf_no (t := 108) ⟨by decide, by decide, by decide, by decide, by decide, by decide, by decide, by decide, by decide, by decide, by decide, by decide, by decide, by decide⟩ m p kk _ _ w
    · have e1 : partT m.kind = 109 := by rw [h]; rfl
      have e2 : rowS m.kind m.toPD m.nk q = (false) := by rw [h]; rfl
      rw [e1, e2]; exact sf_no (t := 109) ⟨by decide, by decide, by decide, by decide, by decide, by decide, by decide, by decide, by decide, by decide, by decide, by decide, by decide, by decide⟩ m p kk _ _ w
    · have e1 : partT m.kind = 110 := by rw [h]; rfl
      have e2 : rowS m.kind m.toPD m.nk q = (false) := by rw [h]; rfl
      rw [e1, e2]; exact sf_no (t := 110) ⟨by decide, by decide, by decide, by decide, by decide, by decide, by decide, by decide, by decide, by decide, by decide, by decide, by decide, by decide⟩ m p kk _ _ w
    · have e1 : partT m.kind = 111 := by rw [h]; rfl
      have e2 : rowS m.kind m.toPD m.nk q = (false) := by rw [h]; rfl
      rw [e1, e2]; exact sf_no (t := 111) ⟨by decide, by decide, by decide, by decide, by decide, by decide, by decide, by decide, by decide, by decide, by decide, by decide, by decide, by decide⟩ m p kk _ _ w
    · have e1 : partT m.kind = 112 := by rw [h]; rfl
      have e2 : rowS m.kind m.toPD m.nk q = (false) := by rw [h]; rfl
      rw [e1, e2]; exact sf_no (t := 112) ⟨by decide, by decide, by decide, by decide, by decide, by decide, by decide, by decide, by decide, by decide, by decide, by decide, by decide, by decide⟩ m p kk _ _ w
    · have e1 : partT m.kind = 113 := by rw [h]; rfl
      have e2 : rowS m.kind m.toPD m.nk q = (false) := by rw [h]; rfl
      rw [e1, e2]; exact sf_no (t := 113) ⟨by decide, by decide, by decide, by decide, by decide, by decide, by decide, by decide, by decide, by decide, by decide, by decide, by decide, by decide⟩ m p kk _ _ w
    · have e1 : partT m.kind = 114 := by rw [h]; rfl
      have e2 : rowS m.kind m.toPD m.nk q = (false) := by rw [h]; rfl
      rw [e1, e2]; exact sf_no (t := 114) ⟨by decide, by decide, by decide, by decide, by decide, by decide, by decide, by decide, by decide, by decide, by decide, by decide, by decide, by decide⟩ m p kk _ _ w
    · have e1 : partT m.kind = 116 := by rw [h]; rfl
      have e2 : rowS m.kind m.toPD m.nk q = (false) := by rw [h]; rfl
      rw [e1, e2]; exact sf_no (t := 116) ⟨by decide, by decide, by decide, by decide, by decide, by decide, by decide, by decide, by decide, by decide, by decide, by decide, by decide, by decide⟩ m p kk _ _ w
    · have e1 : partT m.kind = 119 := by rw [h]; rfl
      have e2 : rowS m.kind m.toPD m.nk q = (false) := by rw [h]; rfl
      rw [e1, e2]; exact sf_no (t := 119) ⟨by decide, by decide, by decide, by decide, by decide, by decide, by decide, by decide, by decide, by decide, by decide, by decide, by decide, by decide⟩ m p kk _ _ w
    · have e1 : partT m.kind = 120 := by rw [h]; rfl
      have e2 : rowS m.kind m.toPD m.nk q = (false) := by rw [h]; rfl
      rw [e1, e2]; exact sf_no (t := 120) ⟨by decide, by decide, by decide, by decide, by decide, by decide, by decide, by decide, by decide, by decide, by decide, by decide, by decide, by decide⟩ m p kk _ _ w
    · have e1 : partT m.kind = 121 := by rw [h]; rfl
      have e2 : rowS m.kind m.toPD m.nk q = (false) := by rw [h]; rfl
      rw [e1, e2]; exact sf_no (t := 121) ⟨by decide, by decide, by decide, by decide, by decide, by decide, by decide, by decide, by decide, by decide, by decide, by decide, by decide, by decide⟩ m p kk _ _ w
    · have e : rowS m.kind m.toPD m.nk q = false := by
        obtain ⟨e1, e2, e3, e4, e5, e6, e16, e7, e8, e9, e10, e11, e12, e13, e14, e15, e20, e21, e22, e23, e24, e25, e26, e27, e28, e29, e30, e31, e32, e33, e34, e35, e36, e37, e40, e41, e42⟩ := h2
        unfold rowS; rw [if_neg e1, if_neg e2, if_neg e3, if_neg e4, if_neg e5, if_neg e6, if_neg e16, if_neg e7, if_neg e8, if_neg e9, if_neg e10, if_neg e11, if_neg e12, if_neg e13, if_neg e14, if_neg e15]
      rw [h, e]; exact sf_no (t := 73) ⟨by decide, by decide, by decide, by decide, by decide, by decide, by decide, by decide, by decide, by decide, by decide, by decide, by decide, by decide⟩ m p kk _ _ w
  · rw [if_neg h, if_neg h]; exact sf_no (t := 73) ⟨by decide, by decide, by decide, by decide, by decide, by decide, by decide, by decide, by decide, by decide, by decide, by decide, by decide, by decide⟩ m p kk _ _ w

set_option maxRecDepth 100000 in
set_option maxHeartbeats 4000000 in
theorem expressionFits_any (m : PM) (p : Nat) (kk : Option Addr) (q : Nat → Option PX) (w : World) (hk : ValsAt w kk (knP m.toPD) (fun j => pv (q j))) (hz : ∀ i, i < m.nn → (m.nm i).size ≤ 1048576) (htx : m.text.size ≤ 1048576) (hm : StrsAt w m.na m.nn m.nm) :
    Calls Try.prog 28 #[.iface (ptT m.toPD) (.agg #[.int .i64 p, .int .i64 m.kind, .int .i64 m.frm, .int .i64 m.tto, .int .i64 m.line, .int .i64 m.op, .int .i64 m.num, .float .f64 m.flt, .string m.text, .slice m.na m.nn m.nc, .slice m.ka m.nk m.kc, .slice kk (knP m.toPD) (knP m.toPD)])] w fun e w' => e = .returned (.bool (exB m.toPD q)) ∧ Onw w w' := by
  unfold exB ptT
  by_cases h : slimP m.toPD
  · rw [if_pos h, if_pos h]
    have hkn : knP m.toPD = m.nk := by unfold knP; rw [if_pos h]
    have hn : m.nk ≤ 1048576 := Nat.le_trans h.1 (by omega)
    have hnn : m.nn ≤ 1048576 := Nat.le_trans h.2 (by omega)
    rw [hkn] at hk ⊢
    rcases kinds_all m.kind with h | h | h | h | h | h | h | h | h | h | h | h | h | h | h | h | h | h | h | h | h | h | h | h | h | h | h | h | h | h | h | h | h | h | h | h | h | ⟨h, _, h2⟩
    · have e1 : partT m.kind = 81 := by rw [h]; rfl
      have e2 : rowE m.kind m.toPD m.nk q = (false) := by rw [h]; rfl
      rw [e1, e2]; exact ef_no (t := 81) ⟨by decide, by decide, by decide, by decide, by decide, by decide, by decide, by decide, by decide, by decide, by decide, by decide, by decide, by decide, by decide⟩ m p kk _ _ w
    · have e1 : partT m.kind = 84 := by rw [h]; rfl
      have e2 : rowE m.kind m.toPD m.nk q = (false) := by rw [h]; rfl
      rw [e1, e2]; exact ef_no (t := 84) ⟨by decide, by decide, by decide, by decide, by decide, by decide, by decide, by decide, by decide, by decide, by decide, by decide, by decide, by decide, by decide⟩ m p kk _ _ w
    · have e1 : partT m.kind = 85 := by rw [h]; rfl
      have e2 : rowE m.kind m.toPD m.nk q = (false) := by rw [h]; rfl
      rw [e1, e2]; exact ef_no (t := 85) ⟨by decide, by decide, by decide, by decide, by decide, by decide, by decide, by decide, by decide, by decide, by decide, by decide, by decide, by decide, by decide⟩ m p kk _ _ w
    · have e1 : partT m.kind = 87 := by rw [h]; rfl
      have e2 : rowE m.kind m.toPD m.nk q = (false) := by rw [h]; rfl
      rw [e1, e2]; exact ef_no (t := 87) ⟨by decide, by decide, by decide, by decide, by decide, by decide, by decide, by decide, by decide, by decide, by decide, by decide, by decide, by decide, by decide⟩ m p kk _ _ w
    · have e1 : partT m.kind = 88 := by rw [h]; rfl
      have e2 : rowE m.kind m.toPD m.nk q = (false) := by rw [h]; rfl
      rw [e1, e2]; exact ef_no (t := 88) ⟨by decide, by decide, by decide, by decide, by decide, by decide, by decide, by decide, by decide, by decide, by decide, by decide, by decide, by decide, by decide⟩ m p kk _ _ w
    · have e1 : partT m.kind = 90 := by rw [h]; rfl
      have e2 : rowE m.kind m.toPD m.nk q = (false) := by rw [h]; rfl
      rw [e1, e2]; exact ef_no (t := 90) ⟨by decide, by decide, by decide, by decide, by decide, by decide, by decide, by decide, by decide, by decide, by decide, by decide, by decide, by decide, by decide⟩ m p kk _ _ w
    · have e1 : partT m.kind = 90 := by rw [h]; rfl
      have e2 : rowE m.kind m.toPD m.nk q = (false) := by rw [h]; rfl
      rw [e1, e2]; exact ef_no (t := 90) ⟨by decide, by decide, by decide, by decide, by decide, by decide, by decide, by decide, by decide, by decide, by decide, by decide, by decide, by decide, by decide⟩ m p kk _ _ w
    · have e1 : partT m.kind = 91 := by rw [h]; rfl
      have e2 : rowE m.kind m.toPD m.nk q = (false) := by rw [h]; rfl
      rw [e1, e2]; exact ef_no (t := 91) ⟨by decide, by decide, by decide, by decide, by decide, by decide, by decide, by decide, by decide, by decide, by decide, by decide, by decide, by decide, by decide⟩ m p kk _ _ w
    · have e1 : partT m.kind = 92 := by rw [h]; rfl
      have e2 : rowE m.kind m.toPD m.nk q = (false) := by rw [h]; rfl
      rw [e1, e2]; exact ef_no (t := 92) ⟨by decide, by decide, by decide, by decide, by decide, by decide, by decide, by decide, by decide, by decide, by decide, by decide, by decide, by decide, by decide⟩ m p kk _ _ w
    · have e1 : partT m.kind = 93 := by rw [h]; rfl
      have e2 : rowE m.kind m.toPD m.nk q = (false) := by rw [h]; rfl
      rw [e1, e2]; exact ef_no (t := 93) ⟨by decide, by decide, by decide, by decide, by decide, by decide, by decide, by decide, by decide, by decide, by decide, by decide, by decide, by decide, by decide⟩ m p kk _ _ w
    · have e1 : partT m.kind = 94 := by rw [h]; rfl
      have e2 : rowE m.kind m.toPD m.nk q = (false) := by rw [h]; rfl
      rw [e1, e2]; exact ef_no (t := 94) ⟨by decide, by decide, by decide, by decide, by decide, by decide, by decide, by decide, by decide, by decide, by decide, by decide, by decide, by decide, by decide⟩ m p kk _ _ w
    · have e1 : partT m.kind = 95 := by rw [h]; rfl
      have e2 : rowE m.kind m.toPD m.nk q = (false) := by rw [h]; rfl
      rw [e1, e2]; exact ef_no (t := 95) ⟨by decide, by decide, by decide, by decide, by decide, by decide, by decide, by decide, by decide, by decide, by decide, by decide, by decide, by decide, by decide⟩ m p kk _ _ w
    · have e1 : partT m.kind = 95 := by rw [h]; rfl
      have e2 : rowE m.kind m.toPD m.nk q = (false) := by rw [h]; rfl
      rw [e1, e2]; exact ef_no (t := 95) ⟨by decide, by decide, by decide, by decide, by decide, by decide, by decide, by decide, by decide, by decide, by decide, by decide, by decide, by decide, by decide⟩ m p kk _ _ w
    · have e1 : partT m.kind = 96 := by rw [h]; rfl
      have e2 : rowE m.kind m.toPD m.nk q = (false) := by rw [h]; rfl
      rw [e1, e2]; exact ef_no (t := 96) ⟨by decide, by decide, by decide, by decide, by decide, by decide, by decide, by decide, by decide, by decide, by decide, by decide, by decide, by decide, by decide⟩ m p kk _ _ w
    · have e1 : partT m.kind = 97 := by rw [h]; rfl
      have e2 : rowE m.kind m.toPD m.nk q = (false) := by rw [h]; rfl
      rw [e1, e2]; exact ef_no (t := 97) ⟨by decide, by decide, by decide, by decide, by decide, by decide, by decide, by decide, by decide, by decide, by decide, by decide, by decide, by decide, by decide⟩ m p kk _ _ w
    · have e1 : partT m.kind = 98 := by rw [h]; rfl
      have e2 : rowE m.kind m.toPD m.nk q = (false) := by rw [h]; rfl
      rw [e1, e2]; exact ef_no (t := 98) ⟨by decide, by decide, by decide, by decide, by decide, by decide, by decide, by decide, by decide, by decide, by decide, by decide, by decide, by decide, by decide⟩ m p kk _ _ w
    · have e1 : partT m.kind = 100 := by rw [h]; rfl
      have e2 : rowE m.kind m.toPD m.nk q = (usesP m.toPD false false false false false && (kidsR [] m.nk q)) := by rw [h]; rfl
      rw [e1, e2]; exact ef_bare m p kk _ _ q w hn hk (Nat.le_refl _) hnn hz htx hm
    · have e1 : partT m.kind = 100 := by rw [h]; rfl
      have e2 : rowE m.kind m.toPD m.nk q = (usesP m.toPD false false false false false && (kidsR [] m.nk q)) := by rw [h]; rfl
      rw [e1, e2]; exact ef_bare m p kk _ _ q w hn hk (Nat.le_refl _) hnn hz htx hm
    · have e1 : partT m.kind = 100 := by rw [h]; rfl
      have e2 : rowE m.kind m.toPD m.nk q = (usesP m.toPD false false false false false && (kidsR [] m.nk q)) := by rw [h]; rfl
      rw [e1, e2]; exact ef_bare m p kk _ _ q w hn hk (Nat.le_refl _) hnn hz htx hm
    · have e1 : partT m.kind = 102 := by rw [h]; rfl
      have e2 : rowE m.kind m.toPD m.nk q = (usesP m.toPD false true false false false && (kidsR [] m.nk q)) := by rw [h]; rfl
      rw [e1, e2]; exact ef_int m p kk _ _ q w hn hk (Nat.le_refl _) hnn hz htx hm
    · have e1 : partT m.kind = 103 := by rw [h]; rfl
      have e2 : rowE m.kind m.toPD m.nk q = (usesP m.toPD false false true false false && (fnum m.flt && (kidsR [] m.nk q))) := by rw [h]; rfl
      rw [e1, e2]; exact ef_flt m p kk _ _ q w hn hk (Nat.le_refl _) hnn hz htx hm
    · have e1 : partT m.kind = 105 := by rw [h]; rfl
      have e2 : rowE m.kind m.toPD m.nk q = (usesP m.toPD false false false true false && (decide ((m.text.size : Int) ≤ 4000) && (kidsR [] m.nk q))) := by rw [h]; rfl
      rw [e1, e2]; exact ef_str m p kk _ _ q w hn hk (Nat.le_refl _) hnn hz htx hm
    · have e1 : partT m.kind = 106 := by rw [h]; rfl
      have e2 : rowE m.kind m.toPD m.nk q = (usesP m.toPD false false false true false && (nameB m.text && (kidsR [] m.nk q))) := by rw [h]; rfl
      rw [e1, e2]; exact ef_name m p kk _ _ q w hn hk (Nat.le_refl _) hnn hz htx hm
    · have e1 : partT m.kind = 101 := by rw [h]; rfl
      have e2 : rowE m.kind m.toPD m.nk q = (usesP m.toPD false false false false false && (kidsR [] m.nk q)) := by rw [h]; rfl
      rw [e1, e2]; exact ef_rest m p kk _ _ q w hn hk (Nat.le_refl _) hnn hz htx hm
    · have e1 : partT m.kind = 107 := by rw [h]; rfl
      have e2 : rowE m.kind m.toPD m.nk q = (usesP m.toPD false false false false false && (kidsR [8, 8] m.nk q)) := by rw [h]; rfl
      rw [e1, e2]; exact ef_either m p kk _ _ q w hn hk (Nat.le_refl _) hnn hz htx hm
    · have e1 : partT m.kind = 107 := by rw [h]; rfl
      have e2 : rowE m.kind m.toPD m.nk q = (usesP m.toPD false false false false false && (kidsR [8, 8] m.nk q)) := by rw [h]; rfl
      rw [e1, e2]; exact ef_either m p kk _ _ q w hn hk (Nat.le_refl _) hnn hz htx hm
    · have e1 : partT m.kind = 108 := by rw [h]; rfl
      have e2 : rowE m.kind m.toPD m.nk q = (usesP m.toPD true false false false false && (decide ((19 : Int) ≤ m.op) && (decide (m.op ≤ 22) && (kidsR [8] m.nk q)))) := by rw [h]; rfl
      rw [e1, e2]; exact ef_unary m p kk _ _ q w hn hk (Nat.le_refl _) hnn hz htx hm
    · have e1 : partT m.kind = 109 := by rw [h]; rfl
      have e2 : rowE m.kind m.toPD m.nk q = (usesP m.toPD true false false false false && (decide ((1 : Int) ≤ m.op) && (decide (m.op ≤ 18) && (kidsR [8, 8] m.nk q)))) := by rw [h]; rfl
      rw [e1, e2]; exact ef_binary m p kk _ _ q w hn hk (Nat.le_refl _) hnn hz htx hm
    · have e1 : partT m.kind = 110 := by rw [h]; rfl
      have e2 : rowE m.kind m.toPD m.nk q = (usesP m.toPD false false false false false && (kidsR [16, 8] m.nk q)) := by rw [h]; rfl
      rw [e1, e2]; exact ef_index m p kk _ _ q w hn hk (Nat.le_refl _) hnn hz htx hm
    · have e1 : partT m.kind = 111 := by rw [h]; rfl
      have e2 : rowE m.kind m.toPD m.nk q = (usesP m.toPD false false false true false && (nameB m.text && (kidsR [16] m.nk q))) := by rw [h]; rfl
      rw [e1, e2]; exact ef_field m p kk _ _ q w hn hk (Nat.le_refl _) hnn hz htx hm
    · have e1 : partT m.kind = 112 := by rw [h]; rfl
      have e2 : rowE m.kind m.toPD m.nk q = (usesP m.toPD false false false false false && ((decide ((1 : Int) ≤ m.nk) && (standR 16 1 q && standR 8 (m.nk - 1) (fun i => q (1 + i)))))) := by rw [h]; rfl
      rw [e1, e2]; exact ef_call m p kk _ _ q w hn hk (Nat.le_refl _) hnn hz htx hm
    · have e1 : partT m.kind = 113 := by rw [h]; rfl
      have e2 : rowE m.kind m.toPD m.nk q = (usesP m.toPD false false false false false && (standR 512 m.nk q)) := by rw [h]; rfl
      rw [e1, e2]; exact ef_table m p kk _ _ q w hn hk (Nat.le_refl _) hnn hz htx hm
    · have e1 : partT m.kind = 114 := by rw [h]; rfl
      have e2 : rowE m.kind m.toPD m.nk q = (usesP m.toPD true false false false true && ((m.op == 0 || m.op == 1) && (allB (fun i => nameB (m.nm i)) 0 m.nn && (kidsR [2] m.nk q)))) := by rw [h]; rfl
      rw [e1, e2]; exact ef_fn m p kk _ _ q w hn hk (Nat.le_refl _) hnn hz htx hm
    · have e1 : partT m.kind = 116 := by rw [h]; rfl
      have e2 : rowE m.kind m.toPD m.nk q = (usesP m.toPD false false false false false && (kidsR [64] m.nk q)) := by rw [h]; rfl
      rw [e1, e2]; exact ef_one m p kk _ _ q w hn hk (Nat.le_refl _) hnn hz htx hm
    · have e1 : partT m.kind = 119 := by rw [h]; rfl
      have e2 : rowE m.kind m.toPD m.nk q = (false) := by rw [h]; rfl
      rw [e1, e2]; exact ef_no (t := 119) ⟨by decide, by decide, by decide, by decide, by decide, by decide, by decide, by decide, by decide, by decide, by decide, by decide, by decide, by decide, by decide⟩ m p kk _ _ w
    · have e1 : partT m.kind = 120 := by rw [h]; rfl
      have e2 : rowE m.kind m.toPD m.nk q = (false) := by rw [h]; rfl
      rw [e1, e2]; exact ef_no (t := 120) ⟨by decide, by decide, by decide, by decide, by decide, by decide, by decide, by decide, by decide, by decide, by decide, by decide, by decide, by decide, by decide⟩ m p kk _ _ w
    · have e1 : partT m.kind = 121 := by rw [h]; rfl
      have e2 : rowE m.kind m.toPD m.nk q = (false) := by rw [h]; rfl
      rw [e1, e2]; exact ef_no (t := 121) ⟨by decide, by decide, by decide, by decide, by decide, by decide, by decide, by decide, by decide, by decide, by decide, by decide, by decide, by decide, by decide⟩ m p kk _ _ w
    · have e : rowE m.kind m.toPD m.nk q = false := by
        obtain ⟨e1, e2, e3, e4, e5, e6, e16, e7, e8, e9, e10, e11, e12, e13, e14, e15, e20, e21, e22, e23, e24, e25, e26, e27, e28, e29, e30, e31, e32, e33, e34, e35, e36, e37, e40, e41, e42⟩ := h2
        unfold rowE; rw [if_neg e20, if_neg e21, if_neg e22, if_neg e23, if_neg e24, if_neg e25, if_neg e26, if_neg e27, if_neg e28, if_neg e29, if_neg e30, if_neg e31, if_neg e32, if_neg e33, if_neg e34, if_neg e35, if_neg e36, if_neg e37]
      rw [h, e]; exact ef_no (t := 73) ⟨by decide, by decide, by decide, by decide, by decide, by decide, by decide, by decide, by decide, by decide, by decide, by decide, by decide, by decide, by decide⟩ m p kk _ _ w
  · rw [if_neg h, if_neg h]; exact ef_no (t := 73) ⟨by decide, by decide, by decide, by decide, by decide, by decide, by decide, by decide, by decide, by decide, by decide, by decide, by decide, by decide, by decide⟩ m p kk _ _ w

set_option maxRecDepth 100000 in
set_option maxHeartbeats 4000000 in
theorem entryFits_any (m : PM) (p : Nat) (kk : Option Addr) (q : Nat → Option PX) (w : World) (hk : ValsAt w kk (knP m.toPD) (fun j => pv (q j))) (hz : ∀ i, i < m.nn → (m.nm i).size ≤ 1048576) (htx : m.text.size ≤ 1048576) (hm : StrsAt w m.na m.nn m.nm) :
    Calls Try.prog 29 #[.iface (ptT m.toPD) (.agg #[.int .i64 p, .int .i64 m.kind, .int .i64 m.frm, .int .i64 m.tto, .int .i64 m.line, .int .i64 m.op, .int .i64 m.num, .float .f64 m.flt, .string m.text, .slice m.na m.nn m.nc, .slice m.ka m.nk m.kc, .slice kk (knP m.toPD) (knP m.toPD)])] w fun e w' => e = .returned (.bool (enB m.toPD q)) ∧ Onw w w' := by
  unfold enB ptT
  by_cases h : slimP m.toPD
  · rw [if_pos h, if_pos h]
    have hkn : knP m.toPD = m.nk := by unfold knP; rw [if_pos h]
    have hn : m.nk ≤ 1048576 := Nat.le_trans h.1 (by omega)
    have hnn : m.nn ≤ 1048576 := Nat.le_trans h.2 (by omega)
    rw [hkn] at hk ⊢
    rcases kinds_all m.kind with h | h | h | h | h | h | h | h | h | h | h | h | h | h | h | h | h | h | h | h | h | h | h | h | h | h | h | h | h | h | h | h | h | h | h | h | h | ⟨h, _, h2⟩
    · have e1 : partT m.kind = 81 := by rw [h]; rfl
      have e2 : rowN m.kind m.toPD m.nk q = (false) := by rw [h]; rfl
      rw [e1, e2]; exact nf_no (t := 81) ⟨by decide, by decide, by decide⟩ m p kk _ _ w
    · have e1 : partT m.kind = 84 := by rw [h]; rfl
      have e2 : rowN m.kind m.toPD m.nk q = (false) := by rw [h]; rfl
      rw [e1, e2]; exact nf_no (t := 84) ⟨by decide, by decide, by decide⟩ m p kk _ _ w
    · have e1 : partT m.kind = 85 := by rw [h]; rfl
      have e2 : rowN m.kind m.toPD m.nk q = (false) := by rw [h]; rfl
      rw [e1, e2]; exact nf_no (t := 85) ⟨by decide, by decide, by decide⟩ m p kk _ _ w
    · have e1 : partT m.kind = 87 := by rw [h]; rfl
      have e2 : rowN m.kind m.toPD m.nk q = (false) := by rw [h]; rfl
      rw [e1, e2]; exact nf_no (t := 87) ⟨by decide, by decide, by decide⟩ m p kk _ _ w
    · have e1 : partT m.kind = 88 := by rw [h]; rfl
      have e2 : rowN m.kind m.toPD m.nk q = (false) := by rw [h]; rfl
      rw [e1, e2]; exact nf_no (t := 88) ⟨by decide, by decide, by decide⟩ m p kk _ _ w
    · have e1 : partT m.kind = 90 := by rw [h]; rfl
      have e2 : rowN m.kind m.toPD m.nk q = (false) := by rw [h]; rfl
      rw [e1, e2]; exact nf_no (t := 90) ⟨by decide, by decide, by decide⟩ m p kk _ _ w
    · have e1 : partT m.kind = 90 := by rw [h]; rfl
      have e2 : rowN m.kind m.toPD m.nk q = (false) := by rw [h]; rfl
      rw [e1, e2]; exact nf_no (t := 90) ⟨by decide, by decide, by decide⟩ m p kk _ _ w
    · have e1 : partT m.kind = 91 := by rw [h]; rfl
      have e2 : rowN m.kind m.toPD m.nk q = (false) := by rw [h]; rfl
      rw [e1, e2]; exact nf_no (t := 91) ⟨by decide, by decide, by decide⟩ m p kk _ _ w
    · have e1 : partT m.kind = 92 := by rw [h]; rfl
      have e2 : rowN m.kind m.toPD m.nk q = (false) := by rw [h]; rfl
      rw [e1, e2]; exact nf_no (t := 92) ⟨by decide, by decide, by decide⟩ m p kk _ _ w
    · have e1 : partT m.kind = 93 := by rw [h]; rfl
      have e2 : rowN m.kind m.toPD m.nk q = (false) := by rw [h]; rfl
      rw [e1, e2]; exact nf_no (t := 93) ⟨by decide, by decide, by decide⟩ m p kk _ _ w
    · have e1 : partT m.kind = 94 := by rw [h]; rfl
      have e2 : rowN m.kind m.toPD m.nk q = (false) := by rw [h]; rfl
      rw [e1, e2]; exact nf_no (t := 94) ⟨by decide, by decide, by decide⟩ m p kk _ _ w
    · have e1 : partT m.kind = 95 := by rw [h]; rfl
      have e2 : rowN m.kind m.toPD m.nk q = (false) := by rw [h]; rfl
      rw [e1, e2]; exact nf_no (t := 95) ⟨by decide, by decide, by decide⟩ m p kk _ _ w
    · have e1 : partT m.kind = 95 := by rw [h]; rfl
      have e2 : rowN m.kind m.toPD m.nk q = (false) := by rw [h]; rfl
      rw [e1, e2]; exact nf_no (t := 95) ⟨by decide, by decide, by decide⟩ m p kk _ _ w
    · have e1 : partT m.kind = 96 := by rw [h]; rfl
      have e2 : rowN m.kind m.toPD m.nk q = (false) := by rw [h]; rfl
      rw [e1, e2]; exact nf_no (t := 96) ⟨by decide, by decide, by decide⟩ m p kk _ _ w
    · have e1 : partT m.kind = 97 := by rw [h]; rfl
      have e2 : rowN m.kind m.toPD m.nk q = (false) := by rw [h]; rfl
      rw [e1, e2]; exact nf_no (t := 97) ⟨by decide, by decide, by decide⟩ m p kk _ _ w
    · have e1 : partT m.kind = 98 := by rw [h]; rfl
      have e2 : rowN m.kind m.toPD m.nk q = (false) := by rw [h]; rfl
      rw [e1, e2]; exact nf_no (t := 98) ⟨by decide, by decide, by decide⟩ m p kk _ _ w
    · have e1 : partT m.kind = 100 := by rw [h]; rfl
      have e2 : rowN m.kind m.toPD m.nk q = (false) := by rw [h]; rfl
      rw [e1, e2]; exact nf_no (t := 100) ⟨by decide, by decide, by decide⟩ m p kk _ _ w
    · have e1 : partT m.kind = 100 := by rw [h]; rfl
      have e2 : rowN m.kind m.toPD m.nk q = (false) := by rw [h]; rfl
      rw [e1, e2]; exact nf_no (t := 100) ⟨by decide, by decide, by decide⟩ m p kk _ _ w
    · have e1 : partT m.kind = 100 := by rw [h]; rfl
      have e2 : rowN m.kind m.toPD m.nk q = (false) := by rw [h]; rfl
      rw [e1, e2]; exact nf_no (t := 100) ⟨by decide, by decide, by decide⟩ m p kk _ _ w
    · have e1 : partT m.kind = 102 := by rw [h]; rfl
      have e2 : rowN m.kind m.toPD m.nk q = (false) := by rw [h]; rfl
      rw [e1, e2]; exact nf_no (t := 102) ⟨by decide, by decide, by decide⟩ m p kk _ _ w
    · have e1 : partT m.kind = 103 := by rw [h]; rfl
      have e2 : rowN m.kind m.toPD m.nk q = (false) := by rw [h]; rfl
      rw [e1, e2]; exact nf_no (t := 103) ⟨by decide, by decide, by decide⟩ m p kk _ _ w
    · have e1 : partT m.kind = 105 := by rw [h]; rfl
      have e2 : rowN m.kind m.toPD m.nk q = (false) := by rw [h]; rfl
      rw [e1, e2]; exact nf_no (t := 105) ⟨by decide, by decide, by decide⟩ m p kk _ _ w
    · have e1 : partT m.kind = 106 := by rw [h]; rfl
      have e2 : rowN m.kind m.toPD m.nk q = (false) := by rw [h]; rfl
      rw [e1, e2]; exact nf_no (t := 106) ⟨by decide, by decide, by decide⟩ m p kk _ _ w
    · have e1 : partT m.kind = 101 := by rw [h]; rfl
      have e2 : rowN m.kind m.toPD m.nk q = (false) := by rw [h]; rfl
      rw [e1, e2]; exact nf_no (t := 101) ⟨by decide, by decide, by decide⟩ m p kk _ _ w
    · have e1 : partT m.kind = 107 := by rw [h]; rfl
      have e2 : rowN m.kind m.toPD m.nk q = (false) := by rw [h]; rfl
      rw [e1, e2]; exact nf_no (t := 107) ⟨by decide, by decide, by decide⟩ m p kk _ _ w
    · have e1 : partT m.kind = 107 := by rw [h]; rfl
      have e2 : rowN m.kind m.toPD m.nk q = (false) := by rw [h]; rfl
      rw [e1, e2]; exact nf_no (t := 107) ⟨by decide, by decide, by decide⟩ m p kk _ _ w
    · have e1 : partT m.kind = 108 := by rw [h]; rfl
      have e2 : rowN m.kind m.toPD m.nk q = (false) := by rw [h]; rfl
      rw [e1, e2]; exact nf_no (t := 108) ⟨by decide, by decide, by decide⟩ m p kk _ _ w
    · have e1 : partT m.kind = 109 := by rw [h]; rfl
      have e2 : rowN m.kind m.toPD m.nk q = (false) := by rw [h]; rfl
      rw [e1, e2]; exact nf_no (t := 109) ⟨by decide, by decide, by decide⟩ m p kk _ _ w
    · have e1 : partT m.kind = 110 := by rw [h]; rfl
      have e2 : rowN m.kind m.toPD m.nk q = (false) := by rw [h]; rfl
      rw [e1, e2]; exact nf_no (t := 110) ⟨by decide, by decide, by decide⟩ m p kk _ _ w
    · have e1 : partT m.kind = 111 := by rw [h]; rfl
      have e2 : rowN m.kind m.toPD m.nk q = (false) := by rw [h]; rfl
      rw [e1, e2]; exact nf_no (t := 111) ⟨by decide, by decide, by decide⟩ m p kk _ _ w
    · have e1 : partT m.kind = 112 := by rw [h]; rfl
      have e2 : rowN m.kind m.toPD m.nk q = (false) := by rw [h]; rfl
      rw [e1, e2]; exact nf_no (t := 112) ⟨by decide, by decide, by decide⟩ m p kk _ _ w
    · have e1 : partT m.kind = 113 := by rw [h]; rfl
      have e2 : rowN m.kind m.toPD m.nk q = (false) := by rw [h]; rfl
      rw [e1, e2]; exact nf_no (t := 113) ⟨by decide, by decide, by decide⟩ m p kk _ _ w
    · have e1 : partT m.kind = 114 := by rw [h]; rfl
      have e2 : rowN m.kind m.toPD m.nk q = (false) := by rw [h]; rfl
      rw [e1, e2]; exact nf_no (t := 114) ⟨by decide, by decide, by decide⟩ m p kk _ _ w
    · have e1 : partT m.kind = 116 := by rw [h]; rfl
      have e2 : rowN m.kind m.toPD m.nk q = (false) := by rw [h]; rfl
      rw [e1, e2]; exact nf_no (t := 116) ⟨by decide, by decide, by decide⟩ m p kk _ _ w
    · have e1 : partT m.kind = 119 := by rw [h]; rfl
      have e2 : rowN m.kind m.toPD m.nk q = (usesP m.toPD false false false false false && (kidsR [8] m.nk q)) := by rw [h]; rfl
      rw [e1, e2]; exact nf_item m p kk _ _ q w hn hk (Nat.le_refl _) hnn hz htx hm
    · have e1 : partT m.kind = 120 := by rw [h]; rfl
      have e2 : rowN m.kind m.toPD m.nk q = (usesP m.toPD false false false false false && (kidsR [8, 8] m.nk q)) := by rw [h]; rfl
      rw [e1, e2]; exact nf_pair m p kk _ _ q w hn hk (Nat.le_refl _) hnn hz htx hm
    · have e1 : partT m.kind = 121 := by rw [h]; rfl
      have e2 : rowN m.kind m.toPD m.nk q = (usesP m.toPD false false false true false && (nameB m.text && (kidsR [8] m.nk q))) := by rw [h]; rfl
      rw [e1, e2]; exact nf_named m p kk _ _ q w hn hk (Nat.le_refl _) hnn hz htx hm
    · have e : rowN m.kind m.toPD m.nk q = false := by
        obtain ⟨e1, e2, e3, e4, e5, e6, e16, e7, e8, e9, e10, e11, e12, e13, e14, e15, e20, e21, e22, e23, e24, e25, e26, e27, e28, e29, e30, e31, e32, e33, e34, e35, e36, e37, e40, e41, e42⟩ := h2
        unfold rowN; rw [if_neg e40, if_neg e41, if_neg e42]
      rw [h, e]; exact nf_no (t := 73) ⟨by decide, by decide, by decide⟩ m p kk _ _ w
  · rw [if_neg h, if_neg h]; exact nf_no (t := 73) ⟨by decide, by decide, by decide⟩ m p kk _ _ w
end Go.Proofs.Ytnokgdgikdgaeaa
