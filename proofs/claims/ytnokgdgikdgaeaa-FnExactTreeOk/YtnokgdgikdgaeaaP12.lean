import Derived.Test.YtnokgdgikdgaeaaP07
import Derived.Test.YtnokgdgikdgaeaaP08
import Derived.Test.YtnokgdgikdgaeaaP09
import Derived.Test.YtnokgdgikdgaeaaP10
import Derived.Test.YtnokgdgikdgaeaaP11
namespace Go.Proofs.Ytnokgdgikdgaeaa
open Go.RowKit
attribute [local go_sem] run_store_float

set_option maxRecDepth 100000 in
set_option maxHeartbeats 2000000 in
theorem st1_nk (w : World) (np : Nat) (pm : Nat → PM) (pa : Option Addr) (pc : Nat) (frm tto line op num : Int) (flt : Nat) (text : ByteArray) (nn : Nat) (nm : Nat → ByteArray) (nk : Nat) (kd : Nat → Int) (na : Option Addr) (nc : Nat) (ka : Option Addr) (kc : Nat)
    (hn : np ≤ 1048576) (hk : nk ≤ 1048576) (hr : ∀ j, j < nk → 0 ≤ kd j ∧ kd j < np) (ht : TM.At w ⟨np, pm, pa, pc⟩) (hm : PM.At w ⟨⟨1, frm, tto, line, op, num, flt, text, nn, nm, nk, kd⟩, na, nc, ka, kc⟩) :
    Calls Try.prog 22 #[.agg #[.slice pa np pc], .agg #[.int .i64 1, .int .i64 frm, .int .i64 tto, .int .i64 line, .int .i64 op, .int .i64 num, .float .f64 flt, .string text, .slice na nn nc, .slice ka nk kc]] w fun e w' => e = .returned (.bool (allB (fun j => statP (kidP (pdOf pm) (⟨1, frm, tto, line, op, num, flt, text, nn, nm, nk, kd⟩ : PD) j)) 0 nk && bareP (⟨1, frm, tto, line, op, num, flt, text, nn, nm, nk, kd⟩ : PD) false false false false)) ∧ Onw w w' := by
  have T := Two.new w pa np pc 1 frm tto line op num flt text na nn nc ka nk kc
  have ob := Two.start w pa np pc 1 frm tto line op num flt text na nn nc ka nk kc
  have HR : Hid _ := hr
  clear hr
  go_enter Try.func22, Try.ntmps22
  go_wp2_with fail
  go_loopw [18] (fun x wr => ∃ j : Nat, j ≤ nk ∧ x = .int .i64 j ∧ Onw w wr ∧ Two wr w.heap.size pa np pc 1 frm tto line op num flt text na nn nc ka nk kc ∧ allB (fun j => statP (kidP (pdOf pm) (⟨1, frm, tto, line, op, num, flt, text, nn, nm, nk, kd⟩ : PD) j)) 0 nk = allB (fun j => statP (kidP (pdOf pm) (⟨1, frm, tto, line, op, num, flt, text, nn, nm, nk, kd⟩ : PD) j)) j (nk - j)) (fun x _ => nk - (intOf x).toNat)
  case atStart => exact ⟨0, Nat.zero_le _, rfl, ob, T, rfl⟩
  case round =>
    clear ob T
    obtain ⟨j, hj, rfl, ob, T, hq⟩ := hrel
    have HQ : Hid _ := hq
    clear hq
    by_cases hlt : j < nk
    · obtain ⟨h0, h1⟩ := HR.out j hlt
      obtain ⟨q, hqq⟩ : ∃ q, kidP (pdOf pm) (⟨1, frm, tto, line, op, num, flt, text, nn, nm, nk, kd⟩ : PD) j = q := ⟨_, rfl⟩
      have st : Hid (allB (fun j => statP (kidP (pdOf pm) (⟨1, frm, tto, line, op, num, flt, text, nn, nm, nk, kd⟩ : PD) j)) j (nk - j) = (statP q && allB (fun j => statP (kidP (pdOf pm) (⟨1, frm, tto, line, op, num, flt, text, nn, nm, nk, kd⟩ : PD) j)) (j + 1) (nk - (j + 1)))) := by
        show _ = _
        rw [show nk - j = (nk - (j + 1)) + 1 from by omega, ← hqq]; rfl
      obtain ⟨t0, c0, c1, c2, c3, c4, c5, c6, c7, c8, c9⟩ := T
      go_wp2_with fail
      have T : Two _ _ _ _ _ _ _ _ _ _ _ _ _ _ _ _ _ _ _ := ⟨t0, c0, c1, c2, c3, c4, c5, c6, c7, c8, c9⟩
      clear t0 c0 c1 c2 c3 c4 c5 c6 c7 c8 c9
      refine (l6kid_any ⟨np, pm, pa, pc⟩ ⟨⟨1, frm, tto, line, op, num, flt, text, nn, nm, nk, kd⟩, na, nc, ka, kc⟩ j _ hn hlt hk h0 h1 (TM.At.onw ob ht) (hm.2.onw ob)).mono ?_
      rintro e w1 ⟨rfl, O1⟩
      replace T := T.onw O1
      replace ob := ob.trans O1
      clear O1
      rw [hqq]
      go_wp2_with fail
      refine (l6stat_any q _).mono ?_
      rintro e w2 ⟨rfl, rfl⟩
      cases hx : statP q
      · go_wp2_with fail
        go_ret
        exact ⟨ret_bool (by rw [HQ.out, st.out, hx]; rfl), ob⟩
      · go_wp2_with fail
        go_roundw
        case rel => exact ⟨j + 1, by omega, by go_num, ob, T, by rw [HQ.out, st.out, hx]; rfl⟩
        case measure => simp [intOf]; omega
    · have st : Hid (allB (fun j => statP (kidP (pdOf pm) (⟨1, frm, tto, line, op, num, flt, text, nn, nm, nk, kd⟩ : PD) j)) j (nk - j) = true) := by
        show _ = _
        rw [show nk - j = 0 from by omega]; rfl
      obtain ⟨t0, c0, c1, c2, c3, c4, c5, c6, c7, c8, c9⟩ := T
      go_wp2_with fail
      refine (l6bare_any ⟨⟨1, frm, tto, line, op, num, flt, text, nn, nm, nk, kd⟩, na, nc, ka, kc⟩ _ false false false false (by decide)).mono ?_
      rintro e w1 ⟨rfl, O1⟩
      replace ob := ob.trans O1
      go_wp2_with fail
      go_ret
      exact ⟨ret_bool (by rw [HQ.out, st.out]; rfl), ob⟩
end Go.Proofs.Ytnokgdgikdgaeaa

namespace Go.Proofs.Ytnokgdgikdgaeaa
open Go.RowKit
attribute [local go_sem] run_store_float

set_option maxRecDepth 100000 in
set_option maxHeartbeats 2000000 in
theorem st5_lo (w : World) (np : Nat) (pa : Option Addr) (pc : Nat) (frm tto line op num : Int) (flt : Nat) (text : ByteArray) (nn : Nat) (nm : Nat → ByteArray) (nk : Nat) (kd : Nat → Int) (na : Option Addr) (nc : Nat) (ka : Option Addr) (kc : Nat) (h1 : num < 1) :
    Calls Try.prog 22 #[.agg #[.slice pa np pc], .agg #[.int .i64 5, .int .i64 frm, .int .i64 tto, .int .i64 line, .int .i64 op, .int .i64 num, .float .f64 flt, .string text, .slice na nn nc, .slice ka nk kc]] w fun e w' => e = .returned (.bool false) ∧ Onw w w' := by
  have T := Two.new w pa np pc 5 frm tto line op num flt text na nn nc ka nk kc
  have ob := Two.start w pa np pc 5 frm tto line op num flt text na nn nc ka nk kc
  go_enter Try.func22, Try.ntmps22
  go_wp2_with fail
  refine (l6bare_any ⟨⟨5, frm, tto, line, op, num, flt, text, nn, nm, nk, kd⟩, na, nc, ka, kc⟩ _ false true false false (by decide)).mono ?_
  rintro e w1 ⟨rfl, O1⟩
  replace T := T.onw O1
  replace ob := ob.trans O1
  clear O1
  obtain ⟨q0, hq0⟩ : ∃ q, bareP (⟨5, frm, tto, line, op, num, flt, text, nn, nm, nk, kd⟩ : PD) false true false false = q := ⟨_, rfl⟩
  rw [hq0]
  have x0 : Hid _ := hq0
  clear hq0
  obtain ⟨t0, c0, c1, c2, c3, c4, c5, c6, c7, c8, c9⟩ := T
  cases q0
  · go_wp2_with fail
    go_ret
    exact ⟨ret_bool rfl, ob⟩
  · go_wp2_with fail
    go_ret
    exact ⟨ret_bool rfl, ob⟩
set_option maxRecDepth 100000 in
set_option maxHeartbeats 2000000 in
theorem st5_hi (w : World) (np : Nat) (pa : Option Addr) (pc : Nat) (frm tto line op num : Int) (flt : Nat) (text : ByteArray) (nn : Nat) (nm : Nat → ByteArray) (nk : Nat) (kd : Nat → Int) (na : Option Addr) (nc : Nat) (ka : Option Addr) (kc : Nat) (h1 : 1 ≤ num) (h2 : (nk : Int) ≤ num) :
    Calls Try.prog 22 #[.agg #[.slice pa np pc], .agg #[.int .i64 5, .int .i64 frm, .int .i64 tto, .int .i64 line, .int .i64 op, .int .i64 num, .float .f64 flt, .string text, .slice na nn nc, .slice ka nk kc]] w fun e w' => e = .returned (.bool false) ∧ Onw w w' := by
  have T := Two.new w pa np pc 5 frm tto line op num flt text na nn nc ka nk kc
  have ob := Two.start w pa np pc 5 frm tto line op num flt text na nn nc ka nk kc
  go_enter Try.func22, Try.ntmps22
  go_wp2_with fail
  refine (l6bare_any ⟨⟨5, frm, tto, line, op, num, flt, text, nn, nm, nk, kd⟩, na, nc, ka, kc⟩ _ false true false false (by decide)).mono ?_
  rintro e w1 ⟨rfl, O1⟩
  replace T := T.onw O1
  replace ob := ob.trans O1
  clear O1
  obtain ⟨q0, hq0⟩ : ∃ q, bareP (⟨5, frm, tto, line, op, num, flt, text, nn, nm, nk, kd⟩ : PD) false true false false = q := ⟨_, rfl⟩
  rw [hq0]
  have x0 : Hid _ := hq0
  clear hq0
  obtain ⟨t0, c0, c1, c2, c3, c4, c5, c6, c7, c8, c9⟩ := T
  cases q0
  · go_wp2_with fail
    go_ret
    exact ⟨ret_bool rfl, ob⟩
  · go_wp2_with fail
    go_ret
    exact ⟨ret_bool rfl, ob⟩
set_option maxRecDepth 100000 in
set_option maxHeartbeats 2000000 in
theorem st5_in (w : World) (np : Nat) (pm : Nat → PM) (pa : Option Addr) (pc : Nat) (frm tto line op : Int) (flt : Nat) (text : ByteArray) (nn : Nat) (nm : Nat → ByteArray) (s nk : Nat) (kd : Nat → Int) (na : Option Addr) (nc : Nat) (ka : Option Addr) (kc : Nat) (hn : np ≤ 1048576) (hk : nk ≤ 1048576) (hs : 1 ≤ s) (hsk : s < nk) (hr : ∀ j, j < nk → 0 ≤ kd j ∧ kd j < np) (ht : TM.At w ⟨np, pm, pa, pc⟩) (hm : PM.At w ⟨⟨5, frm, tto, line, op, (s : Int), flt, text, nn, nm, nk, kd⟩, na, nc, ka, kc⟩) :
    Calls Try.prog 22 #[.agg #[.slice pa np pc], .agg #[.int .i64 5, .int .i64 frm, .int .i64 tto, .int .i64 line, .int .i64 op, .int .i64 s, .float .f64 flt, .string text, .slice na nn nc, .slice ka nk kc]] w fun e w' => e = .returned (.bool (bareP (⟨5, frm, tto, line, op, (s : Int), flt, text, nn, nm, nk, kd⟩ : PD) false true false false && (allB (fun j => targetP (kidP (pdOf pm) (⟨5, frm, tto, line, op, (s : Int), flt, text, nn, nm, nk, kd⟩ : PD) j)) 0 s && exprsP (pdOf pm) (⟨5, frm, tto, line, op, (s : Int), flt, text, nn, nm, nk, kd⟩ : PD) s nk))) ∧ Onw w w' := by
  have T := Two.new w pa np pc 5 frm tto line op s flt text na nn nc ka nk kc
  have ob := Two.start w pa np pc 5 frm tto line op s flt text na nn nc ka nk kc
  have HR : Hid _ := hr
  clear hr
  go_enter Try.func22, Try.ntmps22
  go_wp2_with fail
  refine (l6bare_any ⟨⟨5, frm, tto, line, op, (s : Int), flt, text, nn, nm, nk, kd⟩, na, nc, ka, kc⟩ _ false true false false (by decide)).mono ?_
  rintro e w1 ⟨rfl, O1⟩
  replace T := T.onw O1
  replace ob := ob.trans O1
  clear O1
  obtain ⟨q0, hq0⟩ : ∃ q, bareP (⟨5, frm, tto, line, op, (s : Int), flt, text, nn, nm, nk, kd⟩ : PD) false true false false = q := ⟨_, rfl⟩
  rw [hq0]
  have x0 : Hid _ := hq0
  clear hq0
  obtain ⟨t0, c0, c1, c2, c3, c4, c5, c6, c7, c8, c9⟩ := T
  cases q0
  · go_wp2_with fail
    go_ret
    exact ⟨ret_bool (by rw [x0.out]; rfl), ob⟩
  · go_wp2_with fail
    have T : Two _ _ _ _ _ _ _ _ _ _ _ _ _ _ _ _ _ _ _ := ⟨t0, c0, c1, c2, c3, c4, c5, c6, c7, c8, c9⟩
    clear t0 c0 c1 c2 c3 c4 c5 c6 c7 c8 c9
    simp only [show decide ((s : Int) < 1) = false from decide_eq_false (by omega), show decide (nk ≤ s) = false from decide_eq_false (by omega), Bool.or_false]
    go_loopw [7] (fun x wr => ∃ j : Nat, j ≤ s ∧ x = .int .i64 j ∧ Onw w wr ∧ Two wr w.heap.size pa np pc 5 frm tto line op s flt text na nn nc ka nk kc ∧ allB (fun j => targetP (kidP (pdOf pm) (⟨5, frm, tto, line, op, (s : Int), flt, text, nn, nm, nk, kd⟩ : PD) j)) 0 s = allB (fun j => targetP (kidP (pdOf pm) (⟨5, frm, tto, line, op, (s : Int), flt, text, nn, nm, nk, kd⟩ : PD) j)) j (s - j)) (fun x _ => s - (intOf x).toNat)
    case atStart => exact ⟨0, Nat.zero_le _, rfl, ob, T, rfl⟩
    case round =>
      clear ob T
      obtain ⟨j, hj, rfl, ob, T, hq⟩ := hrel
      have HQ : Hid _ := hq
      clear hq
      by_cases hlt : j < s
      · obtain ⟨h0, h1⟩ := HR.out j (by omega)
        obtain ⟨q, hqq⟩ : ∃ q, kidP (pdOf pm) (⟨5, frm, tto, line, op, (s : Int), flt, text, nn, nm, nk, kd⟩ : PD) j = q := ⟨_, rfl⟩
        have st : Hid (allB (fun j => targetP (kidP (pdOf pm) (⟨5, frm, tto, line, op, (s : Int), flt, text, nn, nm, nk, kd⟩ : PD) j)) j (s - j) = (targetP q && allB (fun j => targetP (kidP (pdOf pm) (⟨5, frm, tto, line, op, (s : Int), flt, text, nn, nm, nk, kd⟩ : PD) j)) (j + 1) (s - (j + 1)))) := by
          show _ = _
          rw [show s - j = (s - (j + 1)) + 1 from by omega, ← hqq]; rfl
        obtain ⟨t0, c0, c1, c2, c3, c4, c5, c6, c7, c8, c9⟩ := T
        go_wp2_with fail
        have T : Two _ _ _ _ _ _ _ _ _ _ _ _ _ _ _ _ _ _ _ := ⟨t0, c0, c1, c2, c3, c4, c5, c6, c7, c8, c9⟩
        clear t0 c0 c1 c2 c3 c4 c5 c6 c7 c8 c9
        refine (l6kid_any ⟨np, pm, pa, pc⟩ ⟨⟨5, frm, tto, line, op, (s : Int), flt, text, nn, nm, nk, kd⟩, na, nc, ka, kc⟩ j _ hn (by dsimp only; omega) hk h0 h1 (TM.At.onw ob ht) (hm.2.onw ob)).mono ?_
        rintro e w1 ⟨rfl, O1⟩
        replace T := T.onw O1
        replace ob := ob.trans O1
        clear O1
        rw [hqq]
        go_wp2_with fail
        refine (l6target_any q _).mono ?_
        rintro e w2 ⟨rfl, rfl⟩
        cases hx : targetP q
        · go_wp2_with fail
          go_ret
          exact ⟨ret_bool (by rw [x0.out, HQ.out, st.out, hx]; rfl), ob⟩
        · go_wp2_with fail
          go_roundw
          case rel => exact ⟨j + 1, by omega, by go_num, ob, T, by rw [HQ.out, st.out, hx]; rfl⟩
          case measure => simp [intOf]; omega
      · have st : Hid (allB (fun j => targetP (kidP (pdOf pm) (⟨5, frm, tto, line, op, (s : Int), flt, text, nn, nm, nk, kd⟩ : PD) j)) j (s - j) = true) := by
          show _ = _
          rw [show s - j = 0 from by omega]; rfl
        obtain ⟨t0, c0, c1, c2, c3, c4, c5, c6, c7, c8, c9⟩ := T
        go_wp2_with fail
        refine (l6exprs_any ⟨np, pm, pa, pc⟩ ⟨⟨5, frm, tto, line, op, (s : Int), flt, text, nn, nm, nk, kd⟩, na, nc, ka, kc⟩ s nk _ hn (by omega) (by dsimp only; omega) hk HR.out (TM.At.onw ob ht) (hm.2.onw ob)).mono ?_
        rintro e w1 ⟨rfl, O1⟩
        replace ob := ob.trans O1
        go_wp2_with fail
        go_ret
        exact ⟨ret_bool (by rw [x0.out, HQ.out, st.out]; rfl), ob⟩
end Go.Proofs.Ytnokgdgikdgaeaa

namespace Go.Proofs.Ytnokgdgikdgaeaa
open Go.RowKit

def stmt1 (pd : Nat → PD) (d : PD) : Bool := allB (fun j => statP (kidP pd d j)) 0 d.nk && bareP d false false false false
def stmt2 (pd : Nat → PD) (d : PD) : Bool := ((bareP d false false false true) && ((namedP d 1 200) && exprsP pd d 0 d.nk))
def stmt3 (pd : Nat → PD) (d : PD) : Bool := decide (d.nk = 1) && ((bareP d false false false true) && ((namedP d 1 1) && exprsP pd d 0 1))
def stmt4 (pd : Nat → PD) (d : PD) : Bool := decide (d.nk = 1) && ((bareP d false false false true) && ((namedP d 1 1) && (kidP pd d 0 == 36)))
def stmt5 (pd : Nat → PD) (d : PD) : Bool := decide (1 ≤ d.num) && (decide (d.num < d.nk) && (bareP d false true false false && (allB (fun j => targetP (kidP pd d j)) 0 d.num.toNat && exprsP pd d d.num.toNat d.nk)))
def stmt6 (pd : Nat → PD) (d : PD) : Bool := decide (d.nk = 1) && ((bareP d false false false false) && (kidP pd d 0 == 34))
def stmt7 (pd : Nat → PD) (d : PD) : Bool := (decide (d.nk = 2) && ((bareP d false false false false) && ((exprsP pd d 0 1) && (kidP pd d 1 == 1)))) || (decide (d.nk = 3) && ((kidP pd d 2 == 1 || kidP pd d 2 == 7) && ((bareP d false false false false) && ((exprsP pd d 0 1) && (kidP pd d 1 == 1)))))
def stmt8 (pd : Nat → PD) (d : PD) : Bool := decide (d.nk = 2) && ((bareP d false false false false) && ((exprsP pd d 0 1) && (kidP pd d 1 == 1)))
def stmt9 (pd : Nat → PD) (d : PD) : Bool := (decide (d.nk = 3) && ((bareP d false false false true) && ((namedP d 1 1) && ((exprsP pd d 0 2) && (kidP pd d 2 == 1))))) || (decide (d.nk = 4) && ((bareP d false false false true) && ((namedP d 1 1) && ((exprsP pd d 0 3) && (kidP pd d 3 == 1)))))
def stmt10 (pd : Nat → PD) (d : PD) : Bool := decide (d.nk = 2) && ((bareP d false false false true) && ((namedP d 1 200) && ((exprsP pd d 0 1) && (kidP pd d 1 == 1))))
def stmt11 (_pd : Nat → PD) (d : PD) : Bool := decide (d.nk = 0) && bareP d false false false false
def stmt12 (_pd : Nat → PD) (d : PD) : Bool := decide (d.nk = 0) && bareP d false false false false
def stmt13 (pd : Nat → PD) (d : PD) : Bool := ((bareP d false false false false) && exprsP pd d 0 d.nk)
def stmt14 (pd : Nat → PD) (d : PD) : Bool := decide (d.nk = 2) && ((bareP d false false false true) && ((namedP d 1 2) && ((kidP pd d 0 == 1) && (kidP pd d 1 == 1))))
def stmt15 (pd : Nat → PD) (d : PD) : Bool := decide (d.nk = 1) && ((bareP d false false false false) && exprsP pd d 0 1)
def stmt16 (pd : Nat → PD) (d : PD) : Bool := decide (d.nk = 1) && ((bareP d false false false false) && (kidP pd d 0 == 34))
def stmtP (pd : Nat → PD) (d : PD) : Bool :=
  if d.kind = 1 then stmt1 pd d else
  if d.kind = 2 then stmt2 pd d else
  if d.kind = 3 then stmt3 pd d else
  if d.kind = 4 then stmt4 pd d else
  if d.kind = 5 then stmt5 pd d else
  if d.kind = 6 then stmt6 pd d else
  if d.kind = 7 then stmt7 pd d else
  if d.kind = 8 then stmt8 pd d else
  if d.kind = 9 then stmt9 pd d else
  if d.kind = 10 then stmt10 pd d else
  if d.kind = 11 then stmt11 pd d else
  if d.kind = 12 then stmt12 pd d else
  if d.kind = 13 then stmt13 pd d else
  if d.kind = 14 then stmt14 pd d else
  if d.kind = 15 then stmt15 pd d else
  if d.kind = 16 then stmt16 pd d else
  false

set_option maxRecDepth 100000 in
set_option maxHeartbeats 2000000 in
theorem l6statement_any (t : TM) (m : PM) (w : World) (hst : statP m.kind = true) (hn : t.np ≤ 1048576) (hk : m.nk ≤ 1048576) (hnn : m.nn ≤ 1048576) (htx : m.text.size ≤ 1048576) (hr : ∀ j, j < m.nk → 0 ≤ m.kd j ∧ m.kd j < t.np) (hz : ∀ i, i < m.nn → (m.nm i).size ≤ 1048576) (ht : t.At w) (hm : m.At w) :
    Calls Try.prog 22 #[.agg #[.slice t.pa t.np t.pc], .agg #[.int .i64 m.kind, .int .i64 m.frm, .int .i64 m.tto, .int .i64 m.line, .int .i64 m.op, .int .i64 m.num, .float .f64 m.flt, .string m.text, .slice m.na m.nn m.nc, .slice m.ka m.nk m.kc]] w fun e w' => e = .returned (.bool (stmtP (pdOf t.pm) m.toPD)) ∧ Onw w w' := by
  obtain ⟨np, pm, pa, pc⟩ := t
  obtain ⟨⟨kind, frm, tto, line, op, num, flt, text, nn, nm, nk, kd⟩, na, nc, ka, kc⟩ := m
  simp only at *
  have hall : kind = 1 ∨ kind = 2 ∨ kind = 3 ∨ kind = 4 ∨ kind = 5 ∨ kind = 6 ∨ kind = 7 ∨ kind = 8 ∨ kind = 9 ∨ kind = 10 ∨ kind = 11 ∨ kind = 12 ∨ kind = 13 ∨ kind = 14 ∨ kind = 15 ∨ kind = 16 := by simp [statP] at hst; omega
  clear hst
  rcases hall with rfl | rfl | rfl | rfl | rfl | rfl | rfl | rfl | rfl | rfl | rfl | rfl | rfl | rfl | rfl | rfl
  · exact st1_nk w np pm pa pc frm tto line op num flt text nn nm nk kd na nc ka kc hn hk hr ht hm
  · exact st2_nk w np pm pa pc frm tto line op num flt text nn nm nk kd na nc ka kc  ⟨hn, hk, hnn, htx, hr, hz, ht, hm⟩
  · by_cases h : nk = 1
    · subst h; exact st3_1 w np pm pa pc frm tto line op num flt text nn nm kd na nc ka kc  ⟨hn, hk, hnn, htx, hr, hz, ht, hm⟩
    · have h0 : stmt3 (pdOf pm) (⟨3, frm, tto, line, op, num, flt, text, nn, nm, nk, kd⟩ : PD) = false := by unfold stmt3; rw [decide_eq_false (show ¬ (⟨3, frm, tto, line, op, num, flt, text, nn, nm, nk, kd⟩ : PD).nk = 1 from h)]; rfl
      refine (st3_no w np pm pa pc frm tto line op num flt text nn nm nk kd na nc ka kc h ⟨hn, hk, hnn, htx, hr, hz, ht, hm⟩).mono ?_
      rintro e w' ⟨rfl, o⟩
      exact ⟨congrArg (fun b => Ending.returned (.bool b)) h0.symm, o⟩
  · by_cases h : nk = 1
    · subst h; exact st4_1 w np pm pa pc frm tto line op num flt text nn nm kd na nc ka kc  ⟨hn, hk, hnn, htx, hr, hz, ht, hm⟩
    · have h0 : stmt4 (pdOf pm) (⟨4, frm, tto, line, op, num, flt, text, nn, nm, nk, kd⟩ : PD) = false := by unfold stmt4; rw [decide_eq_false (show ¬ (⟨4, frm, tto, line, op, num, flt, text, nn, nm, nk, kd⟩ : PD).nk = 1 from h)]; rfl
      refine (st4_no w np pm pa pc frm tto line op num flt text nn nm nk kd na nc ka kc h ⟨hn, hk, hnn, htx, hr, hz, ht, hm⟩).mono ?_
      rintro e w' ⟨rfl, o⟩
      exact ⟨congrArg (fun b => Ending.returned (.bool b)) h0.symm, o⟩
  · by_cases h1 : 1 ≤ num
    · by_cases h2 : num < (nk : Int)
      · obtain ⟨s, rfl⟩ := Int.eq_ofNat_of_zero_le (show 0 ≤ num by omega)
        have h0 : stmt5 (pdOf pm) (⟨5, frm, tto, line, op, (s : Int), flt, text, nn, nm, nk, kd⟩ : PD) = (bareP (⟨5, frm, tto, line, op, (s : Int), flt, text, nn, nm, nk, kd⟩ : PD) false true false false && (allB (fun j => targetP (kidP (pdOf pm) (⟨5, frm, tto, line, op, (s : Int), flt, text, nn, nm, nk, kd⟩ : PD) j)) 0 s && exprsP (pdOf pm) (⟨5, frm, tto, line, op, (s : Int), flt, text, nn, nm, nk, kd⟩ : PD) s nk)) := by
          unfold stmt5; rw [decide_eq_true (show 1 ≤ (⟨5, frm, tto, line, op, (s : Int), flt, text, nn, nm, nk, kd⟩ : PD).num from h1), decide_eq_true (show (⟨5, frm, tto, line, op, (s : Int), flt, text, nn, nm, nk, kd⟩ : PD).num < ((⟨5, frm, tto, line, op, (s : Int), flt, text, nn, nm, nk, kd⟩ : PD).nk : Int) from h2)]; rfl
        refine (st5_in w np pm pa pc frm tto line op flt text nn nm s nk kd na nc ka kc hn hk (by omega) (by omega) hr ht hm).mono ?_
        rintro e w' ⟨rfl, o⟩
        exact ⟨congrArg (fun b => Ending.returned (.bool b)) h0.symm, o⟩
      · have h0 : stmt5 (pdOf pm) (⟨5, frm, tto, line, op, num, flt, text, nn, nm, nk, kd⟩ : PD) = false := by unfold stmt5; rw [decide_eq_false (show ¬ (⟨5, frm, tto, line, op, num, flt, text, nn, nm, nk, kd⟩ : PD).num < ((⟨5, frm, tto, line, op, num, flt, text, nn, nm, nk, kd⟩ : PD).nk : Int) from h2)]; simp
        refine (st5_hi w np pa pc frm tto line op num flt text nn nm nk kd na nc ka kc h1 (by omega)).mono ?_
        rintro e w' ⟨rfl, o⟩
        exact ⟨congrArg (fun b => Ending.returned (.bool b)) h0.symm, o⟩
    · have h0 : stmt5 (pdOf pm) (⟨5, frm, tto, line, op, num, flt, text, nn, nm, nk, kd⟩ : PD) = false := by unfold stmt5; rw [decide_eq_false (show ¬ 1 ≤ (⟨5, frm, tto, line, op, num, flt, text, nn, nm, nk, kd⟩ : PD).num from h1)]; simp
      refine (st5_lo w np pa pc frm tto line op num flt text nn nm nk kd na nc ka kc (by omega)).mono ?_
      rintro e w' ⟨rfl, o⟩
      exact ⟨congrArg (fun b => Ending.returned (.bool b)) h0.symm, o⟩
  · by_cases h : nk = 1
    · subst h; exact st6_1 w np pm pa pc frm tto line op num flt text nn nm kd na nc ka kc  ⟨hn, hk, hnn, htx, hr, hz, ht, hm⟩
    · have h0 : stmt6 (pdOf pm) (⟨6, frm, tto, line, op, num, flt, text, nn, nm, nk, kd⟩ : PD) = false := by unfold stmt6; rw [decide_eq_false (show ¬ (⟨6, frm, tto, line, op, num, flt, text, nn, nm, nk, kd⟩ : PD).nk = 1 from h)]; rfl
      refine (st6_no w np pm pa pc frm tto line op num flt text nn nm nk kd na nc ka kc h ⟨hn, hk, hnn, htx, hr, hz, ht, hm⟩).mono ?_
      rintro e w' ⟨rfl, o⟩
      exact ⟨congrArg (fun b => Ending.returned (.bool b)) h0.symm, o⟩
  · by_cases h2 : nk = 2
    · subst h2
      have h0 : stmt7 (pdOf pm) (⟨7, frm, tto, line, op, num, flt, text, nn, nm, 2, kd⟩ : PD) = (bareP (⟨7, frm, tto, line, op, num, flt, text, nn, nm, 2, kd⟩ : PD) false false false false && (exprsP (pdOf pm) (⟨7, frm, tto, line, op, num, flt, text, nn, nm, 2, kd⟩ : PD) 0 1 && (kidP (pdOf pm) (⟨7, frm, tto, line, op, num, flt, text, nn, nm, 2, kd⟩ : PD) 1 == 1))) := by unfold stmt7; rw [decide_eq_true (show (⟨7, frm, tto, line, op, num, flt, text, nn, nm, 2, kd⟩ : PD).nk = 2 from rfl), decide_eq_false (show ¬ (⟨7, frm, tto, line, op, num, flt, text, nn, nm, 2, kd⟩ : PD).nk = 3 from (by decide : ¬ (2 : Nat) = 3))]; simp
      refine (st7_2 w np pm pa pc frm tto line op num flt text nn nm kd na nc ka kc  ⟨hn, hk, hnn, htx, hr, hz, ht, hm⟩).mono ?_
      rintro e w' ⟨rfl, o⟩
      exact ⟨congrArg (fun b => Ending.returned (.bool b)) h0.symm, o⟩
    · by_cases h3 : nk = 3
      · subst h3
        obtain ⟨q, hq⟩ : ∃ q, kidP (pdOf pm) (⟨7, frm, tto, line, op, num, flt, text, nn, nm, 3, kd⟩ : PD) 2 = q := ⟨_, rfl⟩
        have h0 : stmt7 (pdOf pm) (⟨7, frm, tto, line, op, num, flt, text, nn, nm, 3, kd⟩ : PD) = ((q == 1 || q == 7) && (bareP (⟨7, frm, tto, line, op, num, flt, text, nn, nm, 3, kd⟩ : PD) false false false false && (exprsP (pdOf pm) (⟨7, frm, tto, line, op, num, flt, text, nn, nm, 3, kd⟩ : PD) 0 1 && (kidP (pdOf pm) (⟨7, frm, tto, line, op, num, flt, text, nn, nm, 3, kd⟩ : PD) 1 == 1)))) := by unfold stmt7; rw [decide_eq_true (show (⟨7, frm, tto, line, op, num, flt, text, nn, nm, 3, kd⟩ : PD).nk = 3 from rfl), decide_eq_false (show ¬ (⟨7, frm, tto, line, op, num, flt, text, nn, nm, 3, kd⟩ : PD).nk = 2 from (by decide : ¬ (3 : Nat) = 2)), hq]; simp
        by_cases q1 : q = 1
        · refine (st7_3a w np pm pa pc frm tto line op num flt text nn nm kd na nc ka kc (hq.trans q1) ⟨hn, hk, hnn, htx, hr, hz, ht, hm⟩).mono ?_
          rintro e w' ⟨rfl, o⟩
          exact ⟨congrArg (fun b => Ending.returned (.bool b)) (h0.trans (by rw [q1]; simp)).symm, o⟩
        by_cases q7 : q = 7
        · refine (st7_3b w np pm pa pc frm tto line op num flt text nn nm kd na nc ka kc (hq.trans q7) ⟨hn, hk, hnn, htx, hr, hz, ht, hm⟩).mono ?_
          rintro e w' ⟨rfl, o⟩
          exact ⟨congrArg (fun b => Ending.returned (.bool b)) (h0.trans (by rw [q7]; simp)).symm, o⟩
        refine (st7_3c w np pm pa pc frm tto line op num flt text nn nm kd na nc ka kc q hq q1 q7 ⟨hn, hk, hnn, htx, hr, hz, ht, hm⟩).mono ?_
        rintro e w' ⟨rfl, o⟩
        exact ⟨congrArg (fun b => Ending.returned (.bool b)) (h0.trans (by rw [beq_false_of_ne q1, beq_false_of_ne q7]; rfl)).symm, o⟩
      · have h0 : stmt7 (pdOf pm) (⟨7, frm, tto, line, op, num, flt, text, nn, nm, nk, kd⟩ : PD) = false := by unfold stmt7; rw [decide_eq_false (show ¬ (⟨7, frm, tto, line, op, num, flt, text, nn, nm, nk, kd⟩ : PD).nk = 2 from h2), decide_eq_false (show ¬ (⟨7, frm, tto, line, op, num, flt, text, nn, nm, nk, kd⟩ : PD).nk = 3 from h3)]; simp
        by_cases hlo : nk < 2
        · refine (st7_lo w np pm pa pc frm tto line op num flt text nn nm nk kd na nc ka kc hlo ⟨hn, hk, hnn, htx, hr, hz, ht, hm⟩).mono ?_
          rintro e w' ⟨rfl, o⟩
          exact ⟨congrArg (fun b => Ending.returned (.bool b)) h0.symm, o⟩
        · refine (st7_hi w np pm pa pc frm tto line op num flt text nn nm nk kd na nc ka kc (by omega) ⟨hn, hk, hnn, htx, hr, hz, ht, hm⟩).mono ?_
          rintro e w' ⟨rfl, o⟩
          exact ⟨congrArg (fun b => Ending.returned (.bool b)) h0.symm, o⟩
  · by_cases h : nk = 2
    · subst h; exact st8_2 w np pm pa pc frm tto line op num flt text nn nm kd na nc ka kc  ⟨hn, hk, hnn, htx, hr, hz, ht, hm⟩
    · have h0 : stmt8 (pdOf pm) (⟨8, frm, tto, line, op, num, flt, text, nn, nm, nk, kd⟩ : PD) = false := by unfold stmt8; rw [decide_eq_false (show ¬ (⟨8, frm, tto, line, op, num, flt, text, nn, nm, nk, kd⟩ : PD).nk = 2 from h)]; rfl
      refine (st8_no w np pm pa pc frm tto line op num flt text nn nm nk kd na nc ka kc h ⟨hn, hk, hnn, htx, hr, hz, ht, hm⟩).mono ?_
      rintro e w' ⟨rfl, o⟩
      exact ⟨congrArg (fun b => Ending.returned (.bool b)) h0.symm, o⟩
  · by_cases h3 : nk = 3
    · subst h3
      have h0 : stmt9 (pdOf pm) (⟨9, frm, tto, line, op, num, flt, text, nn, nm, 3, kd⟩ : PD) = (bareP (⟨9, frm, tto, line, op, num, flt, text, nn, nm, 3, kd⟩ : PD) false false false true && (namedP (⟨9, frm, tto, line, op, num, flt, text, nn, nm, 3, kd⟩ : PD) 1 1 && (exprsP (pdOf pm) (⟨9, frm, tto, line, op, num, flt, text, nn, nm, 3, kd⟩ : PD) 0 2 && (kidP (pdOf pm) (⟨9, frm, tto, line, op, num, flt, text, nn, nm, 3, kd⟩ : PD) 2 == 1)))) := by unfold stmt9; rw [decide_eq_true (show (⟨9, frm, tto, line, op, num, flt, text, nn, nm, 3, kd⟩ : PD).nk = 3 from rfl), decide_eq_false (show ¬ (⟨9, frm, tto, line, op, num, flt, text, nn, nm, 3, kd⟩ : PD).nk = 4 from (by decide : ¬ (3 : Nat) = 4))]; simp
      refine (st9_3 w np pm pa pc frm tto line op num flt text nn nm kd na nc ka kc  ⟨hn, hk, hnn, htx, hr, hz, ht, hm⟩).mono ?_
      rintro e w' ⟨rfl, o⟩
      exact ⟨congrArg (fun b => Ending.returned (.bool b)) h0.symm, o⟩
    · by_cases h4 : nk = 4
      · subst h4
        have h0 : stmt9 (pdOf pm) (⟨9, frm, tto, line, op, num, flt, text, nn, nm, 4, kd⟩ : PD) = (bareP (⟨9, frm, tto, line, op, num, flt, text, nn, nm, 4, kd⟩ : PD) false false false true && (namedP (⟨9, frm, tto, line, op, num, flt, text, nn, nm, 4, kd⟩ : PD) 1 1 && (exprsP (pdOf pm) (⟨9, frm, tto, line, op, num, flt, text, nn, nm, 4, kd⟩ : PD) 0 3 && (kidP (pdOf pm) (⟨9, frm, tto, line, op, num, flt, text, nn, nm, 4, kd⟩ : PD) 3 == 1)))) := by unfold stmt9; rw [decide_eq_true (show (⟨9, frm, tto, line, op, num, flt, text, nn, nm, 4, kd⟩ : PD).nk = 4 from rfl), decide_eq_false (show ¬ (⟨9, frm, tto, line, op, num, flt, text, nn, nm, 4, kd⟩ : PD).nk = 3 from (by decide : ¬ (4 : Nat) = 3))]; simp
        refine (st9_4 w np pm pa pc frm tto line op num flt text nn nm kd na nc ka kc  ⟨hn, hk, hnn, htx, hr, hz, ht, hm⟩).mono ?_
        rintro e w' ⟨rfl, o⟩
        exact ⟨congrArg (fun b => Ending.returned (.bool b)) h0.symm, o⟩
      · have h0 : stmt9 (pdOf pm) (⟨9, frm, tto, line, op, num, flt, text, nn, nm, nk, kd⟩ : PD) = false := by unfold stmt9; rw [decide_eq_false (show ¬ (⟨9, frm, tto, line, op, num, flt, text, nn, nm, nk, kd⟩ : PD).nk = 3 from h3), decide_eq_false (show ¬ (⟨9, frm, tto, line, op, num, flt, text, nn, nm, nk, kd⟩ : PD).nk = 4 from h4)]; simp
        refine (st9_no w np pm pa pc frm tto line op num flt text nn nm nk kd na nc ka kc h3 h4 ⟨hn, hk, hnn, htx, hr, hz, ht, hm⟩).mono ?_
        rintro e w' ⟨rfl, o⟩
        exact ⟨congrArg (fun b => Ending.returned (.bool b)) h0.symm, o⟩
  · by_cases h : nk = 2
    · subst h; exact st10_2 w np pm pa pc frm tto line op num flt text nn nm kd na nc ka kc  ⟨hn, hk, hnn, htx, hr, hz, ht, hm⟩
    · have h0 : stmt10 (pdOf pm) (⟨10, frm, tto, line, op, num, flt, text, nn, nm, nk, kd⟩ : PD) = false := by unfold stmt10; rw [decide_eq_false (show ¬ (⟨10, frm, tto, line, op, num, flt, text, nn, nm, nk, kd⟩ : PD).nk = 2 from h)]; rfl
      refine (st10_no w np pm pa pc frm tto line op num flt text nn nm nk kd na nc ka kc h ⟨hn, hk, hnn, htx, hr, hz, ht, hm⟩).mono ?_
      rintro e w' ⟨rfl, o⟩
      exact ⟨congrArg (fun b => Ending.returned (.bool b)) h0.symm, o⟩
  · by_cases h : nk = 0
    · subst h; exact st11_0 w np pm pa pc frm tto line op num flt text nn nm kd na nc ka kc  ⟨hn, hk, hnn, htx, hr, hz, ht, hm⟩
    · have h0 : stmt11 (pdOf pm) (⟨11, frm, tto, line, op, num, flt, text, nn, nm, nk, kd⟩ : PD) = false := by unfold stmt11; rw [decide_eq_false (show ¬ (⟨11, frm, tto, line, op, num, flt, text, nn, nm, nk, kd⟩ : PD).nk = 0 from h)]; rfl
      refine (st11_no w np pm pa pc frm tto line op num flt text nn nm nk kd na nc ka kc h ⟨hn, hk, hnn, htx, hr, hz, ht, hm⟩).mono ?_
      rintro e w' ⟨rfl, o⟩
      exact ⟨congrArg (fun b => Ending.returned (.bool b)) h0.symm, o⟩
  · by_cases h : nk = 0
    · subst h; exact st12_0 w np pm pa pc frm tto line op num flt text nn nm kd na nc ka kc  ⟨hn, hk, hnn, htx, hr, hz, ht, hm⟩
    · have h0 : stmt12 (pdOf pm) (⟨12, frm, tto, line, op, num, flt, text, nn, nm, nk, kd⟩ : PD) = false := by unfold stmt12; rw [decide_eq_false (show ¬ (⟨12, frm, tto, line, op, num, flt, text, nn, nm, nk, kd⟩ : PD).nk = 0 from h)]; rfl
      refine (st12_no w np pm pa pc frm tto line op num flt text nn nm nk kd na nc ka kc h ⟨hn, hk, hnn, htx, hr, hz, ht, hm⟩).mono ?_
      rintro e w' ⟨rfl, o⟩
      exact ⟨congrArg (fun b => Ending.returned (.bool b)) h0.symm, o⟩
  · exact st13_nk w np pm pa pc frm tto line op num flt text nn nm nk kd na nc ka kc  ⟨hn, hk, hnn, htx, hr, hz, ht, hm⟩
  · by_cases h : nk = 2
    · subst h; exact st14_2 w np pm pa pc frm tto line op num flt text nn nm kd na nc ka kc  ⟨hn, hk, hnn, htx, hr, hz, ht, hm⟩
    · have h0 : stmt14 (pdOf pm) (⟨14, frm, tto, line, op, num, flt, text, nn, nm, nk, kd⟩ : PD) = false := by unfold stmt14; rw [decide_eq_false (show ¬ (⟨14, frm, tto, line, op, num, flt, text, nn, nm, nk, kd⟩ : PD).nk = 2 from h)]; rfl
      refine (st14_no w np pm pa pc frm tto line op num flt text nn nm nk kd na nc ka kc h ⟨hn, hk, hnn, htx, hr, hz, ht, hm⟩).mono ?_
      rintro e w' ⟨rfl, o⟩
      exact ⟨congrArg (fun b => Ending.returned (.bool b)) h0.symm, o⟩
  · by_cases h : nk = 1
    · subst h; exact st15_1 w np pm pa pc frm tto line op num flt text nn nm kd na nc ka kc  ⟨hn, hk, hnn, htx, hr, hz, ht, hm⟩
    · have h0 : stmt15 (pdOf pm) (⟨15, frm, tto, line, op, num, flt, text, nn, nm, nk, kd⟩ : PD) = false := by unfold stmt15; rw [decide_eq_false (show ¬ (⟨15, frm, tto, line, op, num, flt, text, nn, nm, nk, kd⟩ : PD).nk = 1 from h)]; rfl
      refine (st15_no w np pm pa pc frm tto line op num flt text nn nm nk kd na nc ka kc h ⟨hn, hk, hnn, htx, hr, hz, ht, hm⟩).mono ?_
      rintro e w' ⟨rfl, o⟩
      exact ⟨congrArg (fun b => Ending.returned (.bool b)) h0.symm, o⟩
  · by_cases h : nk = 1
    · subst h; exact st16_1 w np pm pa pc frm tto line op num flt text nn nm kd na nc ka kc  ⟨hn, hk, hnn, htx, hr, hz, ht, hm⟩
    · have h0 : stmt16 (pdOf pm) (⟨16, frm, tto, line, op, num, flt, text, nn, nm, nk, kd⟩ : PD) = false := by unfold stmt16; rw [decide_eq_false (show ¬ (⟨16, frm, tto, line, op, num, flt, text, nn, nm, nk, kd⟩ : PD).nk = 1 from h)]; rfl
      refine (st16_no w np pm pa pc frm tto line op num flt text nn nm nk kd na nc ka kc h ⟨hn, hk, hnn, htx, hr, hz, ht, hm⟩).mono ?_
      rintro e w' ⟨rfl, o⟩
      exact ⟨congrArg (fun b => Ending.returned (.bool b)) h0.symm, o⟩
end Go.Proofs.Ytnokgdgikdgaeaa

namespace Go.Proofs.Ytnokgdgikdgaeaa
open Go.RowKit
attribute [local go_sem] run_store_float
variable (w : World) (np : Nat) (pm : Nat → PM) (pa : Option Addr) (pc : Nat) (frm tto line op num : Int) (flt : Nat) (text : ByteArray) (nn : Nat) (nm : Nat → ByteArray) (nk : Nat) (kd : Nat → Int) (na : Option Addr) (nc : Nat) (ka : Option Addr) (kc : Nat)

set_option maxRecDepth 100000 in
set_option maxHeartbeats 2000000 in
theorem ex20_0 (H : Prm w np pm pa pc ⟨⟨20, frm, tto, line, op, num, flt, text, nn, nm, 0, kd⟩, na, nc, ka, kc⟩) :
    Calls Try.prog 23 #[.agg #[.slice pa np pc], .agg #[.int .i64 20, .int .i64 frm, .int .i64 tto, .int .i64 line, .int .i64 op, .int .i64 num, .float .f64 flt, .string text, .slice na nn nc, .slice ka 0 kc]] w fun e w' => e = .returned (.bool (bareP (⟨20, frm, tto, line, op, num, flt, text, nn, nm, 0, kd⟩ : PD) false false false false)) ∧ Onw w w' := by
  obtain ⟨hn, hk, hnn, htx, hr, hz, ht, hm⟩ := H
  dsimp only at hk hnn htx hr hz
  have T := Two.new w pa np pc 20 frm tto line op num flt text na nn nc ka 0 kc
  have ob := Two.start w pa np pc 20 frm tto line op num flt text na nn nc ka 0 kc
  go_enter Try.func23, Try.ntmps23
  go_wp2_with fail
  refine (l6bare_any ⟨⟨20, frm, tto, line, op, num, flt, text, nn, nm, 0, kd⟩, na, nc, ka, kc⟩ _ false false false false (by decide)).mono ?_
  rintro e w1 ⟨rfl, O1⟩
  replace T := T.onw O1
  replace ob := ob.trans O1
  clear O1
  obtain ⟨q0, hq0⟩ : ∃ q, bareP (⟨20, frm, tto, line, op, num, flt, text, nn, nm, 0, kd⟩ : PD) false false false false = q := ⟨_, rfl⟩
  rw [hq0]
  have x0 : Hid _ := hq0
  clear hq0
  cases q0
  ·
    obtain ⟨t0, c0, c1, c2, c3, c4, c5, c6, c7, c8, c9⟩ := T
    go_wp2_with fail
    go_ret
    exact ⟨ret_bool (by rw [x0.out] <;> first | rfl | exact beq_false_of_ne (by assumption) | exact beq_false_of_ne (by omega) | exact decide_eq_false (by omega) | (show _ = true; simp; done) | (show _ = true; simp; omega) | (show _ = false; simp; done) | (show _ = false; simp; omega)), ob⟩
  ·
    have ⟨t0, c0, c1, c2, c3, c4, c5, c6, c7, c8, c9⟩ := T
    go_wp2_with fail
    clear t0 c0 c1 c2 c3 c4 c5 c6 c7 c8 c9
    go_ret
    exact ⟨ret_bool (by rw [x0.out] <;> first | rfl | exact beq_false_of_ne (by assumption) | exact beq_false_of_ne (by omega) | exact decide_eq_false (by omega) | (show _ = true; simp; done) | (show _ = true; simp; omega) | (show _ = false; simp; done) | (show _ = false; simp; omega)), ob⟩

set_option maxRecDepth 100000 in
set_option maxHeartbeats 2000000 in
theorem ex20_no (hne : nk ≠ 0) (H : Prm w np pm pa pc ⟨⟨20, frm, tto, line, op, num, flt, text, nn, nm, nk, kd⟩, na, nc, ka, kc⟩) :
    Calls Try.prog 23 #[.agg #[.slice pa np pc], .agg #[.int .i64 20, .int .i64 frm, .int .i64 tto, .int .i64 line, .int .i64 op, .int .i64 num, .float .f64 flt, .string text, .slice na nn nc, .slice ka nk kc]] w fun e w' => e = .returned (.bool false) ∧ Onw w w' := by
  obtain ⟨hn, hk, hnn, htx, hr, hz, ht, hm⟩ := H
  dsimp only at hk hnn htx hr hz
  have T := Two.new w pa np pc 20 frm tto line op num flt text na nn nc ka nk kc
  have ob := Two.start w pa np pc 20 frm tto line op num flt text na nn nc ka nk kc
  go_enter Try.func23, Try.ntmps23
  go_wp2_with fail
  go_ret
  exact ⟨ret_bool (by first | rfl | exact beq_false_of_ne (by assumption) | exact beq_false_of_ne (by omega) | exact decide_eq_false (by omega) | (show _ = true; simp; done) | (show _ = true; simp; omega) | (show _ = false; simp; done) | (show _ = false; simp; omega)), ob⟩

set_option maxRecDepth 100000 in
set_option maxHeartbeats 2000000 in
theorem ex21_0 (H : Prm w np pm pa pc ⟨⟨21, frm, tto, line, op, num, flt, text, nn, nm, 0, kd⟩, na, nc, ka, kc⟩) :
    Calls Try.prog 23 #[.agg #[.slice pa np pc], .agg #[.int .i64 21, .int .i64 frm, .int .i64 tto, .int .i64 line, .int .i64 op, .int .i64 num, .float .f64 flt, .string text, .slice na nn nc, .slice ka 0 kc]] w fun e w' => e = .returned (.bool (bareP (⟨21, frm, tto, line, op, num, flt, text, nn, nm, 0, kd⟩ : PD) false false false false)) ∧ Onw w w' := by
  obtain ⟨hn, hk, hnn, htx, hr, hz, ht, hm⟩ := H
  dsimp only at hk hnn htx hr hz
  have T := Two.new w pa np pc 21 frm tto line op num flt text na nn nc ka 0 kc
  have ob := Two.start w pa np pc 21 frm tto line op num flt text na nn nc ka 0 kc
  go_enter Try.func23, Try.ntmps23
  go_wp2_with fail
  refine (l6bare_any ⟨⟨21, frm, tto, line, op, num, flt, text, nn, nm, 0, kd⟩, na, nc, ka, kc⟩ _ false false false false (by decide)).mono ?_
  rintro e w1 ⟨rfl, O1⟩
  replace T := T.onw O1
  replace ob := ob.trans O1
  clear O1
  obtain ⟨q0, hq0⟩ : ∃ q, bareP (⟨21, frm, tto, line, op, num, flt, text, nn, nm, 0, kd⟩ : PD) false false false false = q := ⟨_, rfl⟩
  rw [hq0]
  have x0 : Hid _ := hq0
  clear hq0
  cases q0
  ·
    obtain ⟨t0, c0, c1, c2, c3, c4, c5, c6, c7, c8, c9⟩ := T
    go_wp2_with fail
    go_ret
    exact ⟨ret_bool (by rw [x0.out] <;> first | rfl | exact beq_false_of_ne (by assumption) | exact beq_false_of_ne (by omega) | exact decide_eq_false (by omega) | (show _ = true; simp; done) | (show _ = true; simp; omega) | (show _ = false; simp; done) | (show _ = false; simp; omega)), ob⟩
  ·
    have ⟨t0, c0, c1, c2, c3, c4, c5, c6, c7, c8, c9⟩ := T
    go_wp2_with fail
    clear t0 c0 c1 c2 c3 c4 c5 c6 c7 c8 c9
    go_ret
    exact ⟨ret_bool (by rw [x0.out] <;> first | rfl | exact beq_false_of_ne (by assumption) | exact beq_false_of_ne (by omega) | exact decide_eq_false (by omega) | (show _ = true; simp; done) | (show _ = true; simp; omega) | (show _ = false; simp; done) | (show _ = false; simp; omega)), ob⟩

set_option maxRecDepth 100000 in
set_option maxHeartbeats 2000000 in
theorem ex21_no (hne : nk ≠ 0) (H : Prm w np pm pa pc ⟨⟨21, frm, tto, line, op, num, flt, text, nn, nm, nk, kd⟩, na, nc, ka, kc⟩) :
    Calls Try.prog 23 #[.agg #[.slice pa np pc], .agg #[.int .i64 21, .int .i64 frm, .int .i64 tto, .int .i64 line, .int .i64 op, .int .i64 num, .float .f64 flt, .string text, .slice na nn nc, .slice ka nk kc]] w fun e w' => e = .returned (.bool false) ∧ Onw w w' := by
  obtain ⟨hn, hk, hnn, htx, hr, hz, ht, hm⟩ := H
  dsimp only at hk hnn htx hr hz
  have T := Two.new w pa np pc 21 frm tto line op num flt text na nn nc ka nk kc
  have ob := Two.start w pa np pc 21 frm tto line op num flt text na nn nc ka nk kc
  go_enter Try.func23, Try.ntmps23
  go_wp2_with fail
  go_ret
  exact ⟨ret_bool (by first | rfl | exact beq_false_of_ne (by assumption) | exact beq_false_of_ne (by omega) | exact decide_eq_false (by omega) | (show _ = true; simp; done) | (show _ = true; simp; omega) | (show _ = false; simp; done) | (show _ = false; simp; omega)), ob⟩

set_option maxRecDepth 100000 in
set_option maxHeartbeats 2000000 in
theorem ex22_0 (H : Prm w np pm pa pc ⟨⟨22, frm, tto, line, op, num, flt, text, nn, nm, 0, kd⟩, na, nc, ka, kc⟩) :
    Calls Try.prog 23 #[.agg #[.slice pa np pc], .agg #[.int .i64 22, .int .i64 frm, .int .i64 tto, .int .i64 line, .int .i64 op, .int .i64 num, .float .f64 flt, .string text, .slice na nn nc, .slice ka 0 kc]] w fun e w' => e = .returned (.bool (bareP (⟨22, frm, tto, line, op, num, flt, text, nn, nm, 0, kd⟩ : PD) false false false false)) ∧ Onw w w' := by
  obtain ⟨hn, hk, hnn, htx, hr, hz, ht, hm⟩ := H
  dsimp only at hk hnn htx hr hz
  have T := Two.new w pa np pc 22 frm tto line op num flt text na nn nc ka 0 kc
  have ob := Two.start w pa np pc 22 frm tto line op num flt text na nn nc ka 0 kc
  go_enter Try.func23, Try.ntmps23
  go_wp2_with fail
  refine (l6bare_any ⟨⟨22, frm, tto, line, op, num, flt, text, nn, nm, 0, kd⟩, na, nc, ka, kc⟩ _ false false false false (by decide)).mono ?_
  rintro e w1 ⟨rfl, O1⟩
  replace T := T.onw O1
  replace ob := ob.trans O1
  clear O1
  obtain ⟨q0, hq0⟩ : ∃ q, bareP (⟨22, frm, tto, line, op, num, flt, text, nn, nm, 0, kd⟩ : PD) false false false false = q := ⟨_, rfl⟩
  rw [hq0]
  have x0 : Hid _ := hq0
  clear hq0
  cases q0
  ·
    obtain ⟨t0, c0, c1, c2, c3, c4, c5, c6, c7, c8, c9⟩ := T
    go_wp2_with fail
    go_ret
    exact ⟨ret_bool (by rw [x0.out] <;> first | rfl | exact beq_false_of_ne (by assumption) | exact beq_false_of_ne (by omega) | exact decide_eq_false (by omega) | (show _ = true; simp; done) | (show _ = true; simp; omega) | (show _ = false; simp; done) | (show _ = false; simp; omega)), ob⟩
  ·
    have ⟨t0, c0, c1, c2, c3, c4, c5, c6, c7, c8, c9⟩ := T
    go_wp2_with fail
    clear t0 c0 c1 c2 c3 c4 c5 c6 c7 c8 c9
    go_ret
    exact ⟨ret_bool (by rw [x0.out] <;> first | rfl | exact beq_false_of_ne (by assumption) | exact beq_false_of_ne (by omega) | exact decide_eq_false (by omega) | (show _ = true; simp; done) | (show _ = true; simp; omega) | (show _ = false; simp; done) | (show _ = false; simp; omega)), ob⟩

set_option maxRecDepth 100000 in
set_option maxHeartbeats 2000000 in
theorem ex22_no (hne : nk ≠ 0) (H : Prm w np pm pa pc ⟨⟨22, frm, tto, line, op, num, flt, text, nn, nm, nk, kd⟩, na, nc, ka, kc⟩) :
    Calls Try.prog 23 #[.agg #[.slice pa np pc], .agg #[.int .i64 22, .int .i64 frm, .int .i64 tto, .int .i64 line, .int .i64 op, .int .i64 num, .float .f64 flt, .string text, .slice na nn nc, .slice ka nk kc]] w fun e w' => e = .returned (.bool false) ∧ Onw w w' := by
  obtain ⟨hn, hk, hnn, htx, hr, hz, ht, hm⟩ := H
  dsimp only at hk hnn htx hr hz
  have T := Two.new w pa np pc 22 frm tto line op num flt text na nn nc ka nk kc
  have ob := Two.start w pa np pc 22 frm tto line op num flt text na nn nc ka nk kc
  go_enter Try.func23, Try.ntmps23
  go_wp2_with fail
  go_ret
  exact ⟨ret_bool (by first | rfl | exact beq_false_of_ne (by assumption) | exact beq_false_of_ne (by omega) | exact decide_eq_false (by omega) | (show _ = true; simp; done) | (show _ = true; simp; omega) | (show _ = false; simp; done) | (show _ = false; simp; omega)), ob⟩
end Go.Proofs.Ytnokgdgikdgaeaa
