import Derived.Test.YtnokgdgikdgaeaaGreatP07
import Derived.Test.YtnokgdgikdgaeaaGreatP06
namespace Go.Proofs.YtnokgdgikdgaeaaGreat
open Go.RowKit

theorem Ctx.sep (c : Ctx) (hz : c.w0.heap.size ≤ c.hb) {va : Option Addr} {n : Nat} {vs : Nat → Int} (hI : IntsAt c.w0 va n vs) : 0 < n → ∀ x, va = some x → x.block ≠ c.hb := fun h0 x hx => by
  obtain ⟨b, off, e, hc⟩ := hI h0
  have h1 := cell_lt (hc 0 h0)
  rw [e] at hx; cases hx
  show b ≠ c.hb
  omega

theorem hold_St (c : Ctx) (ok : c.Ok) (va : Option Addr) (n vc : Nat) (vs : Nat → Int) (step : Int) (hs : -1 ≤ step ∧ step ≤ 1) (l : Int) (h : Nat → Int) (a b : Nat → Bool) (w : World) (hn : n ≤ 1048576) (hI : IntsAt c.w0 va n vs) (hB : ∀ x, -1099511627776 ≤ h x ∧ h x ≤ 1099511627776) (S : c.St w l h a b) :
    Calls Tryz.prog 64 #[.pointer (some ⟨c.wb, 0, none⟩), .slice va n vc, .int .i64 step] w fun e w' => e = .returned (.tuple #[]) ∧ c.St w' l (holdF c.m.nv h vs step n) a b ∧ c.Keep w w' := by
  obtain ⟨o, W, ⟨cur, B, A⟩, sc, B2, S2⟩ := S
  refine (hold_any c.wb _ _ _ c.hb c.m.nv l c.sb c.m.nn cur h va n vc vs step w W B A hn hs hB (hI.onw o) (c.sep ok.zhb hI) ok.ne1).mono ?_
  rintro e w' ⟨cur', rfl, h1, h2, h3, h4, h5⟩
  exact ⟨rfl, ⟨Below.trans o (Below.mono h1 ok.zhb), ⟨W.blk.kept h2 ok.ne1⟩, ⟨cur', h4, h5⟩, sc, B2.kept h2 (Ne.symm ok.ne3), S2⟩, ⟨by omega, fun x hx => h2 x hx.2.2.1⟩⟩

theorem hold_up (c : Ctx) (ok : c.Ok) (va : Option Addr) (n vc : Nat) (vs : Nat → Int) (l : Int) (h : Nat → Int) (a b : Nat → Bool) (w : World) (hn : n ≤ 1048576) (hI : IntsAt c.w0 va n vs) (hB : ∀ x, -1099511627776 ≤ h x ∧ h x ≤ 1099511627776) (S : c.St w l h a b) :
    Calls Tryz.prog 64 #[.pointer (some ⟨c.wb, 0, none⟩), .slice va n vc, .int .i64 1] w fun e w' => e = .returned (.tuple #[]) ∧ c.St w' l (fun x => h x + cntV c.m.nv vs n x) a b ∧ c.Keep w w' := by
  refine (hold_St c ok va n vc vs 1 (by omega) l h a b w hn hI hB S).mono ?_
  rintro e w' ⟨rfl, h1, h2⟩
  exact ⟨rfl, h1.hs fun v _ => (holdF_up _ _ _ _ _).symm, h2⟩
theorem hold_down (c : Ctx) (ok : c.Ok) (va : Option Addr) (n vc : Nat) (vs : Nat → Int) (l : Int) (h : Nat → Int) (a b : Nat → Bool) (w : World) (hn : n ≤ 1048576) (hI : IntsAt c.w0 va n vs) (hB : ∀ x, -1099511627776 ≤ h x ∧ h x ≤ 1099511627776) (S : c.St w l h a b) :
    Calls Tryz.prog 64 #[.pointer (some ⟨c.wb, 0, none⟩), .slice va n vc, .int .i64 (-1)] w fun e w' => e = .returned (.tuple #[]) ∧ c.St w' l (fun x => h x - cntV c.m.nv vs n x) a b ∧ c.Keep w w' := by
  refine (hold_St c ok va n vc vs (-1) (by omega) l h a b w hn hI hB S).mono ?_
  rintro e w' ⟨rfl, h1, h2⟩
  exact ⟨rfl, h1.hs fun v _ => (holdF_down _ _ _ _ _).symm, h2⟩

/-- The loops counted anew. -/
theorem Ctx.St.loop {c : Ctx} (ok : c.Ok) {w : World} {l : Int} {h : Nat → Int} {a b : Nat → Bool} (S : c.St w l h a b) (l' : Int) : c.St (w.setCell ⟨c.wb, 4, none⟩ (.int .i64 l')) l' h a b ∧ c.Keep w (w.setCell ⟨c.wb, 4, none⟩ (.int .i64 l')) := by
  obtain ⟨o, W, ⟨cur, B, A⟩, sc, B2, S2⟩ := S
  have K : Kept (· ≠ c.wb) w (w.setCell ⟨c.wb, 4, none⟩ (.int .i64 l')) := Kept.set (Kept.refl _ _) (by simp) _
  refine ⟨⟨below_set o ok.zwb _, ⟨?_⟩, ⟨cur, B.kept K (Ne.symm ok.ne1), A⟩, sc, B2.kept K (Ne.symm ok.ne2), S2⟩, ⟨by rw [World.size_setCell]; exact Nat.le_refl _, fun x hx => K x hx.2.1⟩⟩
  have := W.blk.set 4 (.int .i64 l')
  simpa using this

set_option maxHeartbeats 1000000 in
theorem visitLoop_any (c : Ctx) (ok : c.Ok) (q : Nat) (va : Option Addr) (n vc : Nat) (vs : Nat → Int) (l : Int) (h : Nat → Int) (w : World) (dn : Nat → Bool) (hn : n ≤ 1048576) (hI : IntsAt c.w0 va n vs) (hV : c.VisitOk q) (h0 : 0 ≤ l) (h1 : l ≤ 1048576) (hl : c.L q = l + 1) (hh : ∀ v, v < c.m.nv → c.H q v = h v + cntV c.m.nv vs n v)
    (hB : ∀ x, 0 ≤ h x ∧ h x ≤ 1000000000000) (S : c.Std w l h dn) :
    Calls Tryz.prog 62 #[.pointer (some ⟨c.wb, 0, none⟩), .int .i64 q, .slice va n vc] w fun e w' => ∃ dn', e = .returned (.tuple #[]) ∧ c.Std w' l h dn' ∧ c.Keep w w' ∧ c.Grow dn dn' ∧ dn' q = true := by
  have HB1 : Hid (∀ x, -1099511627776 ≤ h x ∧ h x ≤ 1099511627776) := fun x => by have := hB x; omega
  have HB2 : Hid (∀ x, -1099511627776 ≤ (fun x => h x + cntV c.m.nv vs n x) x ∧ (fun x => h x + cntV c.m.nv vs n x) x ≤ 1099511627776) := fun x => by have := hB x; have := cntV_le c.m.nv vs n x; simp only; omega
  have HH : Hid _ := hh
  have HL : Hid _ := hl
  clear hB hh hl
  have x := S.W.blk.cell
  have fs := S.W.blk.free
  go_enter Tryz.func62, Tryz.ntmps62
  go_wp2_with fail
  clear x fs
  obtain ⟨S1, K1⟩ := Ctx.St.loop ok S (l + 1)
  refine (hold_up c ok va n vc vs (l + 1) h _ _ _ hn hI HB1.out S1).mono ?_
  rintro e w2 ⟨rfl, S2, K2⟩
  go_wp2_with fail
  refine (hV _ dn (by rw [HL.out]; exact Ctx.St.hs S2 HH.out)).mono ?_
  rintro e w3 ⟨d3, rfl, S3, K3, G3, h3⟩
  rw [HL.out] at S3
  have S3' : c.Std w3 (l + 1) (fun x => h x + cntV c.m.nv vs n x) d3 := Ctx.St.hs S3 fun v hv => (HH.out v hv).symm
  clear S3
  go_wp2_with fail
  refine (hold_down c ok va n vc vs (l + 1) _ _ _ _ hn hI HB2.out S3').mono ?_
  rintro e w4 ⟨rfl, S4, K4⟩
  have S4' : c.Std w4 (l + 1) h d3 := Ctx.St.hs S4 fun v hv => by show _ = h v + cntV _ _ _ _ - cntV _ _ _ _; omega
  clear S4
  have x := S4'.W.blk.cell
  have fs := S4'.W.blk.free
  go_wp2_with fail
  go_end0
  have e1 : l + 1 - 1 = l := by omega
  obtain ⟨S5, K5⟩ := Ctx.St.loop ok S4' l
  first
    | exact ⟨d3, rfl, S5, (((K1.trans K2).trans K3).trans K4).trans K5, G3, h3⟩
    | (rw [e1]; exact ⟨d3, rfl, S5, (((K1.trans K2).trans K3).trans K4).trans K5, G3, h3⟩)
end Go.Proofs.YtnokgdgikdgaeaaGreat

namespace Go.Proofs.YtnokgdgikdgaeaaGreat
open Go.RowKit

/-- A form that is none. -/
def zForm : Value := .agg #[.int .i64 0, .int .i64 0, .int .i64 0, .int .i64 0, .int .i64 0, .float .f64 0, .string ByteArray.empty, .slice none 0 0, .slice none 0 0, .slice none 0 0]
theorem as_block_if (t : TypeId) (v : Value) (w : World) : Sem.run Tryz.prog (Instr.typeAssert (.iface t v) 79 125 true) w = Sem.run Tryz.prog (if t = 125 then pure (.tuple #[v, .bool true]) else (do let z ← zeroValue 125; pure (.tuple #[z, .bool false]))) w := by kernel_rfl
theorem as_block_z (w : World) : Sem.run Tryz.prog (do let z ← zeroValue 125; pure (Value.tuple #[z, .bool false])) w = .ok (Value.tuple #[.agg #[.int .i64 0, .int .i64 0, .int .i64 0, .int .i64 0, .int .i64 0, .float .f64 0, .string ByteArray.empty, .slice none 0 0, .slice none 0 0, .slice none 0 0], .bool false]) w := by kernel_rfl
theorem as_block_yes {d : ND} (h : d.nk ≤ 200) (hk : d.kind = 1) (v : Value) (w : World) : Sem.run Tryz.prog (Instr.typeAssert (.iface (fmT d) v) 79 125 true) w = .ok (.tuple #[v, .bool true]) w := by
  have e : fmT d = 125 := by
    unfold fmT; rw [if_pos h]
    rcases hk with hk <;> (rw [hk]; rfl)
  rw [as_block_if, e, if_pos rfl]
  rfl
theorem as_block_no {d : ND} (h : d.nk ≤ 200) (hk : d.kind ≠ 1) (v : Value) (w : World) : Sem.run Tryz.prog (Instr.typeAssert (.iface (fmT d) v) 79 125 true) w = .ok (.tuple #[.agg #[.int .i64 0, .int .i64 0, .int .i64 0, .int .i64 0, .int .i64 0, .float .f64 0, .string ByteArray.empty, .slice none 0 0, .slice none 0 0, .slice none 0 0], .bool false]) w := by
  have e : fmT d ≠ 125 := by
    unfold fmT; rw [if_pos h]
    rcases kinds_all d.kind with h | h | h | h | h | h | h | h | h | h | h | h | h | h | h | h | h | h | h | h | h | h | h | h | h | h | h | h | h | h | h | h | h | ⟨h, _⟩
    all_goals first | (exfalso; omega) | (rw [h]; decide)
  rw [as_block_if, if_neg e]; exact as_block_z w
theorem as_while_if (t : TypeId) (v : Value) (w : World) : Sem.run Tryz.prog (Instr.typeAssert (.iface t v) 79 127 true) w = Sem.run Tryz.prog (if t = 127 then pure (.tuple #[v, .bool true]) else (do let z ← zeroValue 127; pure (.tuple #[z, .bool false]))) w := by kernel_rfl
theorem as_while_z (w : World) : Sem.run Tryz.prog (do let z ← zeroValue 127; pure (Value.tuple #[z, .bool false])) w = .ok (Value.tuple #[.agg #[.int .i64 0, .int .i64 0, .int .i64 0, .int .i64 0, .int .i64 0, .float .f64 0, .string ByteArray.empty, .slice none 0 0, .slice none 0 0, .slice none 0 0], .bool false]) w := by kernel_rfl
theorem as_while_yes {d : ND} (h : d.nk ≤ 200) (hk : d.kind = 6) (v : Value) (w : World) : Sem.run Tryz.prog (Instr.typeAssert (.iface (fmT d) v) 79 127 true) w = .ok (.tuple #[v, .bool true]) w := by
  have e : fmT d = 127 := by
    unfold fmT; rw [if_pos h]
    rcases hk with hk <;> (rw [hk]; rfl)
  rw [as_while_if, e, if_pos rfl]
  rfl
theorem as_while_no {d : ND} (h : d.nk ≤ 200) (hk : d.kind ≠ 6) (v : Value) (w : World) : Sem.run Tryz.prog (Instr.typeAssert (.iface (fmT d) v) 79 127 true) w = .ok (.tuple #[.agg #[.int .i64 0, .int .i64 0, .int .i64 0, .int .i64 0, .int .i64 0, .float .f64 0, .string ByteArray.empty, .slice none 0 0, .slice none 0 0, .slice none 0 0], .bool false]) w := by
  have e : fmT d ≠ 127 := by
    unfold fmT; rw [if_pos h]
    rcases kinds_all d.kind with h | h | h | h | h | h | h | h | h | h | h | h | h | h | h | h | h | h | h | h | h | h | h | h | h | h | h | h | h | h | h | h | h | ⟨h, _⟩
    all_goals first | (exfalso; omega) | (rw [h]; decide)
  rw [as_while_if, if_neg e]; exact as_while_z w
theorem as_for_if (t : TypeId) (v : Value) (w : World) : Sem.run Tryz.prog (Instr.typeAssert (.iface t v) 79 98 true) w = Sem.run Tryz.prog (if t = 98 then pure (.tuple #[v, .bool true]) else (do let z ← zeroValue 98; pure (.tuple #[z, .bool false]))) w := by kernel_rfl
theorem as_for_z (w : World) : Sem.run Tryz.prog (do let z ← zeroValue 98; pure (Value.tuple #[z, .bool false])) w = .ok (Value.tuple #[.agg #[.int .i64 0, .int .i64 0, .int .i64 0, .int .i64 0, .int .i64 0, .float .f64 0, .string ByteArray.empty, .slice none 0 0, .slice none 0 0, .slice none 0 0], .bool false]) w := by kernel_rfl
theorem as_for_yes {d : ND} (h : d.nk ≤ 200) (hk : d.kind = 7) (v : Value) (w : World) : Sem.run Tryz.prog (Instr.typeAssert (.iface (fmT d) v) 79 98 true) w = .ok (.tuple #[v, .bool true]) w := by
  have e : fmT d = 98 := by
    unfold fmT; rw [if_pos h]
    rcases hk with hk <;> (rw [hk]; rfl)
  rw [as_for_if, e, if_pos rfl]
  rfl
theorem as_for_no {d : ND} (h : d.nk ≤ 200) (hk : d.kind ≠ 7) (v : Value) (w : World) : Sem.run Tryz.prog (Instr.typeAssert (.iface (fmT d) v) 79 98 true) w = .ok (.tuple #[.agg #[.int .i64 0, .int .i64 0, .int .i64 0, .int .i64 0, .int .i64 0, .float .f64 0, .string ByteArray.empty, .slice none 0 0, .slice none 0 0, .slice none 0 0], .bool false]) w := by
  have e : fmT d ≠ 98 := by
    unfold fmT; rw [if_pos h]
    rcases kinds_all d.kind with h | h | h | h | h | h | h | h | h | h | h | h | h | h | h | h | h | h | h | h | h | h | h | h | h | h | h | h | h | h | h | h | h | ⟨h, _⟩
    all_goals first | (exfalso; omega) | (rw [h]; decide)
  rw [as_for_if, if_neg e]; exact as_for_z w
theorem as_each_if (t : TypeId) (v : Value) (w : World) : Sem.run Tryz.prog (Instr.typeAssert (.iface t v) 79 99 true) w = Sem.run Tryz.prog (if t = 99 then pure (.tuple #[v, .bool true]) else (do let z ← zeroValue 99; pure (.tuple #[z, .bool false]))) w := by kernel_rfl
theorem as_each_z (w : World) : Sem.run Tryz.prog (do let z ← zeroValue 99; pure (Value.tuple #[z, .bool false])) w = .ok (Value.tuple #[.agg #[.int .i64 0, .int .i64 0, .int .i64 0, .int .i64 0, .int .i64 0, .float .f64 0, .string ByteArray.empty, .slice none 0 0, .slice none 0 0, .slice none 0 0], .bool false]) w := by kernel_rfl
theorem as_each_yes {d : ND} (h : d.nk ≤ 200) (hk : d.kind = 8) (v : Value) (w : World) : Sem.run Tryz.prog (Instr.typeAssert (.iface (fmT d) v) 79 99 true) w = .ok (.tuple #[v, .bool true]) w := by
  have e : fmT d = 99 := by
    unfold fmT; rw [if_pos h]
    rcases hk with hk <;> (rw [hk]; rfl)
  rw [as_each_if, e, if_pos rfl]
  rfl
theorem as_each_no {d : ND} (h : d.nk ≤ 200) (hk : d.kind ≠ 8) (v : Value) (w : World) : Sem.run Tryz.prog (Instr.typeAssert (.iface (fmT d) v) 79 99 true) w = .ok (.tuple #[.agg #[.int .i64 0, .int .i64 0, .int .i64 0, .int .i64 0, .int .i64 0, .float .f64 0, .string ByteArray.empty, .slice none 0 0, .slice none 0 0, .slice none 0 0], .bool false]) w := by
  have e : fmT d ≠ 99 := by
    unfold fmT; rw [if_pos h]
    rcases kinds_all d.kind with h | h | h | h | h | h | h | h | h | h | h | h | h | h | h | h | h | h | h | h | h | h | h | h | h | h | h | h | h | h | h | h | h | ⟨h, _⟩
    all_goals first | (exfalso; omega) | (rw [h]; decide)
  rw [as_each_if, if_neg e]; exact as_each_z w
theorem as_try_if (t : TypeId) (v : Value) (w : World) : Sem.run Tryz.prog (Instr.typeAssert (.iface t v) 79 100 true) w = Sem.run Tryz.prog (if t = 100 then pure (.tuple #[v, .bool true]) else (do let z ← zeroValue 100; pure (.tuple #[z, .bool false]))) w := by kernel_rfl
theorem as_try_z (w : World) : Sem.run Tryz.prog (do let z ← zeroValue 100; pure (Value.tuple #[z, .bool false])) w = .ok (Value.tuple #[.agg #[.int .i64 0, .int .i64 0, .int .i64 0, .int .i64 0, .int .i64 0, .float .f64 0, .string ByteArray.empty, .slice none 0 0, .slice none 0 0, .slice none 0 0], .bool false]) w := by kernel_rfl
theorem as_try_yes {d : ND} (h : d.nk ≤ 200) (hk : d.kind = 12) (v : Value) (w : World) : Sem.run Tryz.prog (Instr.typeAssert (.iface (fmT d) v) 79 100 true) w = .ok (.tuple #[v, .bool true]) w := by
  have e : fmT d = 100 := by
    unfold fmT; rw [if_pos h]
    rcases hk with hk <;> (rw [hk]; rfl)
  rw [as_try_if, e, if_pos rfl]
  rfl
theorem as_try_no {d : ND} (h : d.nk ≤ 200) (hk : d.kind ≠ 12) (v : Value) (w : World) : Sem.run Tryz.prog (Instr.typeAssert (.iface (fmT d) v) 79 100 true) w = .ok (.tuple #[.agg #[.int .i64 0, .int .i64 0, .int .i64 0, .int .i64 0, .int .i64 0, .float .f64 0, .string ByteArray.empty, .slice none 0 0, .slice none 0 0, .slice none 0 0], .bool false]) w := by
  have e : fmT d ≠ 100 := by
    unfold fmT; rw [if_pos h]
    rcases kinds_all d.kind with h | h | h | h | h | h | h | h | h | h | h | h | h | h | h | h | h | h | h | h | h | h | h | h | h | h | h | h | h | h | h | h | h | ⟨h, _⟩
    all_goals first | (exfalso; omega) | (rw [h]; decide)
  rw [as_try_if, if_neg e]; exact as_try_z w
theorem as_var_if (t : TypeId) (v : Value) (w : World) : Sem.run Tryz.prog (Instr.typeAssert (.iface t v) 79 102 true) w = Sem.run Tryz.prog (if t = 102 then pure (.tuple #[v, .bool true]) else (do let z ← zeroValue 102; pure (.tuple #[z, .bool false]))) w := by kernel_rfl
theorem as_var_z (w : World) : Sem.run Tryz.prog (do let z ← zeroValue 102; pure (Value.tuple #[z, .bool false])) w = .ok (Value.tuple #[.agg #[.int .i64 0, .int .i64 0, .int .i64 0, .int .i64 0, .int .i64 0, .float .f64 0, .string ByteArray.empty, .slice none 0 0, .slice none 0 0, .slice none 0 0], .bool false]) w := by kernel_rfl
theorem as_var_yes {d : ND} (h : d.nk ≤ 200) (hk : d.kind = 26) (v : Value) (w : World) : Sem.run Tryz.prog (Instr.typeAssert (.iface (fmT d) v) 79 102 true) w = .ok (.tuple #[v, .bool true]) w := by
  have e : fmT d = 102 := by
    unfold fmT; rw [if_pos h]
    rcases hk with hk <;> (rw [hk]; rfl)
  rw [as_var_if, e, if_pos rfl]
  rfl
theorem as_var_no {d : ND} (h : d.nk ≤ 200) (hk : d.kind ≠ 26) (v : Value) (w : World) : Sem.run Tryz.prog (Instr.typeAssert (.iface (fmT d) v) 79 102 true) w = .ok (.tuple #[.agg #[.int .i64 0, .int .i64 0, .int .i64 0, .int .i64 0, .int .i64 0, .float .f64 0, .string ByteArray.empty, .slice none 0 0, .slice none 0 0, .slice none 0 0], .bool false]) w := by
  have e : fmT d ≠ 102 := by
    unfold fmT; rw [if_pos h]
    rcases kinds_all d.kind with h | h | h | h | h | h | h | h | h | h | h | h | h | h | h | h | h | h | h | h | h | h | h | h | h | h | h | h | h | h | h | h | h | ⟨h, _⟩
    all_goals first | (exfalso; omega) | (rw [h]; decide)
  rw [as_var_if, if_neg e]; exact as_var_z w
theorem as_fn_if (t : TypeId) (v : Value) (w : World) : Sem.run Tryz.prog (Instr.typeAssert (.iface t v) 79 92 true) w = Sem.run Tryz.prog (if t = 92 then pure (.tuple #[v, .bool true]) else (do let z ← zeroValue 92; pure (.tuple #[z, .bool false]))) w := by kernel_rfl
theorem as_fn_z (w : World) : Sem.run Tryz.prog (do let z ← zeroValue 92; pure (Value.tuple #[z, .bool false])) w = .ok (Value.tuple #[.agg #[.int .i64 0, .int .i64 0, .int .i64 0, .int .i64 0, .int .i64 0, .float .f64 0, .string ByteArray.empty, .slice none 0 0, .slice none 0 0, .slice none 0 0], .bool false]) w := by kernel_rfl
theorem as_fn_yes {d : ND} (h : d.nk ≤ 200) (hk : d.kind = 36) (v : Value) (w : World) : Sem.run Tryz.prog (Instr.typeAssert (.iface (fmT d) v) 79 92 true) w = .ok (.tuple #[v, .bool true]) w := by
  have e : fmT d = 92 := by
    unfold fmT; rw [if_pos h]
    rcases hk with hk <;> (rw [hk]; rfl)
  rw [as_fn_if, e, if_pos rfl]
  rfl
theorem as_fn_no {d : ND} (h : d.nk ≤ 200) (hk : d.kind ≠ 36) (v : Value) (w : World) : Sem.run Tryz.prog (Instr.typeAssert (.iface (fmT d) v) 79 92 true) w = .ok (.tuple #[.agg #[.int .i64 0, .int .i64 0, .int .i64 0, .int .i64 0, .int .i64 0, .float .f64 0, .string ByteArray.empty, .slice none 0 0, .slice none 0 0, .slice none 0 0], .bool false]) w := by
  have e : fmT d ≠ 92 := by
    unfold fmT; rw [if_pos h]
    rcases kinds_all d.kind with h | h | h | h | h | h | h | h | h | h | h | h | h | h | h | h | h | h | h | h | h | h | h | h | h | h | h | h | h | h | h | h | h | ⟨h, _⟩
    all_goals first | (exfalso; omega) | (rw [h]; decide)
  rw [as_fn_if, if_neg e]; exact as_fn_z w
theorem as_let_if (t : TypeId) (v : Value) (w : World) : Sem.run Tryz.prog (Instr.typeAssert (.iface t v) 79 97 true) w = Sem.run Tryz.prog (if t = 97 then pure (.tuple #[v, .bool true]) else (do let z ← zeroValue 97; pure (.tuple #[z, .bool false]))) w := by kernel_rfl
theorem as_let_z (w : World) : Sem.run Tryz.prog (do let z ← zeroValue 97; pure (Value.tuple #[z, .bool false])) w = .ok (Value.tuple #[.agg #[.int .i64 0, .int .i64 0, .int .i64 0, .int .i64 0, .int .i64 0, .float .f64 0, .string ByteArray.empty, .slice none 0 0, .slice none 0 0, .slice none 0 0], .bool false]) w := by kernel_rfl
theorem as_let_yes {d : ND} (h : d.nk ≤ 200) (hk : d.kind = 2) (v : Value) (w : World) : Sem.run Tryz.prog (Instr.typeAssert (.iface (fmT d) v) 79 97 true) w = .ok (.tuple #[v, .bool true]) w := by
  have e : fmT d = 97 := by
    unfold fmT; rw [if_pos h]
    rcases hk with hk <;> (rw [hk]; rfl)
  rw [as_let_if, e, if_pos rfl]
  rfl
theorem as_let_no {d : ND} (h : d.nk ≤ 200) (hk : d.kind ≠ 2) (v : Value) (w : World) : Sem.run Tryz.prog (Instr.typeAssert (.iface (fmT d) v) 79 97 true) w = .ok (.tuple #[.agg #[.int .i64 0, .int .i64 0, .int .i64 0, .int .i64 0, .int .i64 0, .float .f64 0, .string ByteArray.empty, .slice none 0 0, .slice none 0 0, .slice none 0 0], .bool false]) w := by
  have e : fmT d ≠ 97 := by
    unfold fmT; rw [if_pos h]
    rcases kinds_all d.kind with h | h | h | h | h | h | h | h | h | h | h | h | h | h | h | h | h | h | h | h | h | h | h | h | h | h | h | h | h | h | h | h | h | ⟨h, _⟩
    all_goals first | (exfalso; omega) | (rw [h]; decide)
  rw [as_let_if, if_neg e]; exact as_let_z w
theorem as_jump_if (t : TypeId) (v : Value) (w : World) : Sem.run Tryz.prog (Instr.typeAssert (.iface t v) 79 106 true) w = Sem.run Tryz.prog (if t = 106 then pure (.tuple #[v, .bool true]) else (do let z ← zeroValue 106; pure (.tuple #[z, .bool false]))) w := by kernel_rfl
theorem as_jump_z (w : World) : Sem.run Tryz.prog (do let z ← zeroValue 106; pure (Value.tuple #[z, .bool false])) w = .ok (Value.tuple #[.agg #[.int .i64 0, .int .i64 0, .int .i64 0, .int .i64 0, .int .i64 0, .float .f64 0, .string ByteArray.empty, .slice none 0 0, .slice none 0 0, .slice none 0 0], .bool false]) w := by kernel_rfl
theorem as_jump_yes {d : ND} (h : d.nk ≤ 200) (hk : d.kind = 9 ∨ d.kind = 10) (v : Value) (w : World) : Sem.run Tryz.prog (Instr.typeAssert (.iface (fmT d) v) 79 106 true) w = .ok (.tuple #[v, .bool true]) w := by
  have e : fmT d = 106 := by
    unfold fmT; rw [if_pos h]
    rcases hk with hk | hk <;> (rw [hk]; rfl)
  rw [as_jump_if, e, if_pos rfl]
  rfl
theorem as_jump_no {d : ND} (h : d.nk ≤ 200) (hk : d.kind ≠ 9 ∧ d.kind ≠ 10) (v : Value) (w : World) : Sem.run Tryz.prog (Instr.typeAssert (.iface (fmT d) v) 79 106 true) w = .ok (.tuple #[.agg #[.int .i64 0, .int .i64 0, .int .i64 0, .int .i64 0, .int .i64 0, .float .f64 0, .string ByteArray.empty, .slice none 0 0, .slice none 0 0, .slice none 0 0], .bool false]) w := by
  have e : fmT d ≠ 106 := by
    unfold fmT; rw [if_pos h]
    rcases kinds_all d.kind with h | h | h | h | h | h | h | h | h | h | h | h | h | h | h | h | h | h | h | h | h | h | h | h | h | h | h | h | h | h | h | h | h | ⟨h, _⟩
    all_goals first | (exfalso; omega) | (rw [h]; decide)
  rw [as_jump_if, if_neg e]; exact as_jump_z w
theorem as_rest_if (t : TypeId) (v : Value) (w : World) : Sem.run Tryz.prog (Instr.typeAssert (.iface t v) 79 108 true) w = Sem.run Tryz.prog (if t = 108 then pure (.tuple #[v, .bool true]) else (do let z ← zeroValue 108; pure (.tuple #[z, .bool false]))) w := by kernel_rfl
theorem as_rest_z (w : World) : Sem.run Tryz.prog (do let z ← zeroValue 108; pure (Value.tuple #[z, .bool false])) w = .ok (Value.tuple #[.agg #[.int .i64 0, .int .i64 0, .int .i64 0, .int .i64 0, .int .i64 0, .float .f64 0, .string ByteArray.empty, .slice none 0 0, .slice none 0 0, .slice none 0 0], .bool false]) w := by kernel_rfl
theorem as_rest_yes {d : ND} (h : d.nk ≤ 200) (hk : d.kind = 37) (v : Value) (w : World) : Sem.run Tryz.prog (Instr.typeAssert (.iface (fmT d) v) 79 108 true) w = .ok (.tuple #[v, .bool true]) w := by
  have e : fmT d = 108 := by
    unfold fmT; rw [if_pos h]
    rcases hk with hk <;> (rw [hk]; rfl)
  rw [as_rest_if, e, if_pos rfl]
  rfl
theorem as_rest_no {d : ND} (h : d.nk ≤ 200) (hk : d.kind ≠ 37) (v : Value) (w : World) : Sem.run Tryz.prog (Instr.typeAssert (.iface (fmT d) v) 79 108 true) w = .ok (.tuple #[.agg #[.int .i64 0, .int .i64 0, .int .i64 0, .int .i64 0, .int .i64 0, .float .f64 0, .string ByteArray.empty, .slice none 0 0, .slice none 0 0, .slice none 0 0], .bool false]) w := by
  have e : fmT d ≠ 108 := by
    unfold fmT; rw [if_pos h]
    rcases kinds_all d.kind with h | h | h | h | h | h | h | h | h | h | h | h | h | h | h | h | h | h | h | h | h | h | h | h | h | h | h | h | h | h | h | h | h | ⟨h, _⟩
    all_goals first | (exfalso; omega) | (rw [h]; decide)
  rw [as_rest_if, if_neg e]; exact as_rest_z w
theorem as_up_if (t : TypeId) (v : Value) (w : World) : Sem.run Tryz.prog (Instr.typeAssert (.iface t v) 79 105 true) w = Sem.run Tryz.prog (if t = 105 then pure (.tuple #[v, .bool true]) else (do let z ← zeroValue 105; pure (.tuple #[z, .bool false]))) w := by kernel_rfl
theorem as_up_z (w : World) : Sem.run Tryz.prog (do let z ← zeroValue 105; pure (Value.tuple #[z, .bool false])) w = .ok (Value.tuple #[.agg #[.int .i64 0, .int .i64 0, .int .i64 0, .int .i64 0, .int .i64 0, .float .f64 0, .string ByteArray.empty, .slice none 0 0, .slice none 0 0, .slice none 0 0], .bool false]) w := by kernel_rfl
theorem as_up_yes {d : ND} (h : d.nk ≤ 200) (hk : d.kind = 27) (v : Value) (w : World) : Sem.run Tryz.prog (Instr.typeAssert (.iface (fmT d) v) 79 105 true) w = .ok (.tuple #[v, .bool true]) w := by
  have e : fmT d = 105 := by
    unfold fmT; rw [if_pos h]
    rcases hk with hk <;> (rw [hk]; rfl)
  rw [as_up_if, e, if_pos rfl]
  rfl
theorem as_up_no {d : ND} (h : d.nk ≤ 200) (hk : d.kind ≠ 27) (v : Value) (w : World) : Sem.run Tryz.prog (Instr.typeAssert (.iface (fmT d) v) 79 105 true) w = .ok (.tuple #[.agg #[.int .i64 0, .int .i64 0, .int .i64 0, .int .i64 0, .int .i64 0, .float .f64 0, .string ByteArray.empty, .slice none 0 0, .slice none 0 0, .slice none 0 0], .bool false]) w := by
  have e : fmT d ≠ 105 := by
    unfold fmT; rw [if_pos h]
    rcases kinds_all d.kind with h | h | h | h | h | h | h | h | h | h | h | h | h | h | h | h | h | h | h | h | h | h | h | h | h | h | h | h | h | h | h | h | h | ⟨h, _⟩
    all_goals first | (exfalso; omega) | (rw [h]; decide)
  rw [as_up_if, if_neg e]; exact as_up_z w
theorem field_node (v0 v1 v2 v3 v4 v5 v6 v7 v8 v9 : Value) (w : World) : Sem.run Tryz.prog (Instr.field 84 (.agg #[v0, v1, v2, v3, v4, v5, v6, v7, v8, v9]) 1) w = .ok (.agg #[v1, v2, v3, v4, v5, v6, v7, v8]) w := by kernel_rfl
theorem field_refs (v1 v2 v3 v4 v5 v6 v8 : Value) (a : Option Addr) (n c : Nat) (w : World) : Sem.run Tryz.prog (Instr.field 71 (.agg #[v1, v2, v3, v4, v5, v6, .slice a n c, v8]) 6) w = .ok (.slice a n c) w := by kernel_rfl
theorem field_kids (v1 v2 v3 v4 v5 v6 v7 : Value) (a : Option Addr) (n c : Nat) (w : World) : Sem.run Tryz.prog (Instr.field 71 (.agg #[v1, v2, v3, v4, v5, v6, v7, .slice a n c]) 7) w = .ok (.slice a n c) w := by kernel_rfl
end Go.Proofs.YtnokgdgikdgaeaaGreat

namespace Go.Proofs.YtnokgdgikdgaeaaGreat
open Go.RowKit
attribute [local go_sem] run_store_float

theorem letS_step (nv : Nat) (nd : Nat → ND) (p j x : Nat) : letS nv nd p (j + 1) x = letS nv nd p j x + (if (nd ((nd p).kd j).toNat).kind = 2 then cntV nv (nd ((nd p).kd j).toNat).rf (nd ((nd p).kd j).toNat).nr x else 0) := rfl
theorem letS_le (nv : Nat) (nd : Nat → ND) (p : Nat) (hr : ∀ j, j < (nd p).nk → (nd ((nd p).kd j).toNat).nr ≤ 1048576) : ∀ j, j ≤ (nd p).nk → ∀ x, 0 ≤ letS nv nd p j x ∧ letS nv nd p j x ≤ j * 1048576
  | 0, _, x => by simp [letS]
  | j + 1, hj, x => by
    have := letS_le nv nd p hr j (by omega) x
    have h2 := cntV_le nv (nd ((nd p).kd j).toNat).rf (nd ((nd p).kd j).toNat).nr x
    have h3 := hr j (by omega)
    simp only [letS]; split <;> omega

set_option maxRecDepth 100000 in
set_option maxHeartbeats 2000000 in
theorem visitBlock_any (c : Ctx) (ok : c.Ok) (p : Nat) (kk : Option Addr) (kn kc : Nat) (w : World) (dn : Nat → Bool) (hp : p < c.m.nn) (hk : (c.m.nm p).kind = 1) (ih : ∀ q, q < p → c.VisitOk q) (S : c.Std w (c.L p) (c.H p) dn) :
    Calls Tryz.prog 61 #[.pointer (some ⟨c.wb, 0, none⟩), .agg #[.int .i64 p, .int .i64 (c.m.nm p).kind, .int .i64 (c.m.nm p).line, .int .i64 (c.m.nm p).op, .int .i64 (c.m.nm p).num, .float .f64 (c.m.nm p).flt, .string (c.m.nm p).str, .slice (c.m.nm p).ra (c.m.nm p).nr (c.m.nm p).rc, .slice (c.m.nm p).ka (c.m.nm p).nk (c.m.nm p).kc, .slice kk kn kc]] w fun e w' => ∃ dn', e = .returned (.tuple #[]) ∧ c.Std w' (c.L p) (c.H p) dn' ∧ c.Keep w w' ∧ c.Grow dn dn' ∧ ∀ j, j < (c.m.nm p).nk → dn' ((c.m.nm p).kd j).toNat = true := by
  have OK : Hid _ := ok
  have IH : Hid _ := ih
  have hI := (ok.hma.2.2.2 p hp).2
  have n1 := S.W.blk.lt
  obtain ⟨⟨_, hB0, _⟩, ⟨_, sB0, _⟩⟩ := And.intro S.H S.S
  have n2 := hB0.lt
  have n3 := sB0.lt
  have kn200 := ok.nk p hp
  have HK : Hid _ := hk
  have HBd : Hid (∀ k, k ≤ (c.m.nm p).nk → ∀ x, -1099511627776 ≤ (fun x => c.H p x + letS c.m.nv (ndOf c.m.nm) p k x) x ∧ (fun x => c.H p x + letS c.m.nv (ndOf c.m.nm) p k x) x ≤ 1099511627776) := fun k hk x => by
    have h1 := ok.hH p hp x
    have h2 := letS_le c.m.nv (ndOf c.m.nm) p (fun j hj => by
      obtain ⟨q0, q1⟩ := ok.kids p hp j hj
      exact (ok.hsm.2.2.2 ((c.m.nm p).kd j).toNat (by omega)).1) k hk x
    simp only; omega
  have HBd2 : Hid (∀ k, k ≤ (c.m.nm p).nk → ∀ x, -1099511627776 ≤ (fun x => c.H p x + letS c.m.nv (ndOf c.m.nm) p (c.m.nm p).nk x - letS c.m.nv (ndOf c.m.nm) p k x) x ∧ (fun x => c.H p x + letS c.m.nv (ndOf c.m.nm) p (c.m.nm p).nk x - letS c.m.nv (ndOf c.m.nm) p k x) x ≤ 1099511627776) := fun k hk x => by
    have h1 := ok.hH p hp x
    have hr : ∀ j, j < (ndOf c.m.nm p).nk → (ndOf c.m.nm ((ndOf c.m.nm p).kd j).toNat).nr ≤ 1048576 := fun j hj => by
      obtain ⟨q0, q1⟩ := ok.kids p hp j hj
      exact (ok.hsm.2.2.2 ((c.m.nm p).kd j).toNat (by omega)).1
    have h2 := letS_le c.m.nv (ndOf c.m.nm) p hr k hk x
    have h3 := letS_le c.m.nv (ndOf c.m.nm) p hr (c.m.nm p).nk (Nat.le_refl _) x
    simp only; omega
  clear ok ih hk hB0 sB0
  obtain ⟨KA, hKA⟩ : ∃ KA, (c.m.nm p).ka = KA := ⟨_, rfl⟩
  rw [hKA] at hI ⊢
  clear hKA
  go_enter Tryz.func61, Tryz.ntmps61
  go_wp2_with fail
  have hS0 : c.Std (w.alloc (Obj.cells #[.int .i64 p, .int .i64 (c.m.nm p).kind, .int .i64 (c.m.nm p).line, .int .i64 (c.m.nm p).op, .int .i64 (c.m.nm p).num, .float .f64 (c.m.nm p).flt, .string (c.m.nm p).str, .slice (c.m.nm p).ra (c.m.nm p).nr (c.m.nm p).rc, .slice KA (c.m.nm p).nk (c.m.nm p).kc, .slice kk kn kc] 125)) (c.L p) (c.H p) dn := Ctx.St.onw S (Onw.alloc _ _)
  have hBx : Blk (w.alloc (Obj.cells #[.int .i64 p, .int .i64 (c.m.nm p).kind, .int .i64 (c.m.nm p).line, .int .i64 (c.m.nm p).op, .int .i64 (c.m.nm p).num, .float .f64 (c.m.nm p).flt, .string (c.m.nm p).str, .slice (c.m.nm p).ra (c.m.nm p).nr (c.m.nm p).rc, .slice KA (c.m.nm p).nk (c.m.nm p).kc, .slice kk kn kc] 125)) w.heap.size 125 #[.int .i64 p, .int .i64 (c.m.nm p).kind, .int .i64 (c.m.nm p).line, .int .i64 (c.m.nm p).op, .int .i64 (c.m.nm p).num, .float .f64 (c.m.nm p).flt, .string (c.m.nm p).str, .slice (c.m.nm p).ra (c.m.nm p).nr (c.m.nm p).rc, .slice KA (c.m.nm p).nk (c.m.nm p).kc, .slice kk kn kc] := Blk.new _ _ _
  go_loopw [17] (fun i wr => ∃ (k : Nat) (dk : Nat → Bool), k ≤ (c.m.nm p).nk ∧ i = .int .i64 k ∧ c.Std wr (c.L p) (fun x => c.H p x + letS c.m.nv (ndOf c.m.nm) p k x) dk ∧ Blk wr w.heap.size 125 #[.int .i64 p, .int .i64 (c.m.nm p).kind, .int .i64 (c.m.nm p).line, .int .i64 (c.m.nm p).op, .int .i64 (c.m.nm p).num, .float .f64 (c.m.nm p).flt, .string (c.m.nm p).str, .slice (c.m.nm p).ra (c.m.nm p).nr (c.m.nm p).rc, .slice KA (c.m.nm p).nk (c.m.nm p).kc, .slice kk kn kc] ∧ c.Keep w wr ∧ c.Grow dn dk ∧ ∀ j, j < k → dk ((c.m.nm p).kd j).toNat = true) (fun i _ => (c.m.nm p).nk - (intOf i).toNat)
  case atStart => exact ⟨0, dn, Nat.zero_le _, rfl, Ctx.St.hs hS0 (fun v _ => by simp [letS]), hBx, Ctx.Keep.onw (Onw.alloc _ _), Ctx.Grow.refl _ _, fun j hj => absurd hj (Nat.not_lt_zero _)⟩
  case round =>
    clear S hS0 hBx
    obtain ⟨k, dk, hk, rfl, S, hBx, K, G, hd⟩ := hrel
    have HD : Hid _ := hd
    clear hd
    by_cases hlt : k < (c.m.nm p).nk
    · obtain ⟨b, off, rfl, hc⟩ := hI.onw S.o (by omega)
      have hck := hc k hlt
      obtain ⟨q0, q1⟩ := OK.out.kids p hp k hlt
      obtain ⟨q, hq⟩ := Int.eq_ofNat_of_zero_le q0
      have HQ : Hid _ := hq
      rw [hq] at hck q1
      have hqp : q < p := by omega
      clear hc hq q0 q1
      have hl : Hid (c.L q = c.L p) := by
        have := OK.out.eL p hp k hlt
        rw [HQ.out, HK.out] at this
        show _ = _
        simpa [loopK] using this
      have hh : Hid (∀ v, v < c.m.nv → c.H q v = c.H p v + letS c.m.nv (ndOf c.m.nm) p k v) := fun v hv => by
        have := OK.out.eH p hp k hlt v hv
        rw [HQ.out, HK.out] at this
        simpa using this
      go_wp2_with fail
      refine (IH.out q hqp _ dk (by rw [hl.out]; exact Ctx.St.hs S hh.out)).mono ?_
      rintro e w1 ⟨d1, rfl, S1, K1, G1, h1⟩
      rw [hl.out] at S1
      have S1' : c.Std w1 (c.L p) (fun x => c.H p x + letS c.m.nv (ndOf c.m.nm) p k x) d1 := Ctx.St.hs S1 fun v hv => (hh.out v hv).symm
      have hBx1 := K1.blk (Nat.ne_of_gt n1) (Nat.ne_of_gt n2) (Nat.ne_of_gt n3) hBx
      clear S1 S hBx
      have x := S1'.W.blk.cell
      have hq1 : q < c.m.nn := by omega
      obtain ⟨v, g1, kq, rfl, hI2, _⟩ := OK.out.hF q hq1
      have g2 := cell_onw S1'.o g1
      clear g1
      have nk2 := OK.out.nk q hq1
      by_cases hkq : (c.m.nm q).kind = 2
      · have asl := as_let_yes (d := (c.m.nm q).toND) nk2 hkq
        have hIr := (OK.out.hma.2.2.2 q hq1).1
        have hnr := (OK.out.hsm.2.2.2 q hq1).1
        have HKQ : Hid _ := hkq
        go_wp2_with fail
        refine (hold_up c OK.out _ _ _ (c.m.nm q).rf (c.L p) _ _ _ _ hnr hIr (HBd.out k (by omega)) (Ctx.St.onw S1' (Onw.alloc _ _))).mono ?_
        rintro e w2 ⟨rfl, S2, K2⟩
        go_wp2_with fail
        go_roundw
        case rel =>
          refine ⟨k + 1, d1, by omega, by go_num, Ctx.St.hs S2 fun v hv => ?_, K2.blk (Nat.ne_of_gt n1) (Nat.ne_of_gt n2) (Nat.ne_of_gt n3) (hBx1.onw (Onw.alloc _ _)), ((K.trans K1).trans (Ctx.Keep.onw (Onw.alloc _ _))).trans K2, G.trans G1, fun j hj => ?_⟩
          · have := letS_step c.m.nv (ndOf c.m.nm) p k v
            have e1 : ((ndOf c.m.nm p).kd k).toNat = q := by show ((c.m.nm p).kd k).toNat = q; rw [HQ.out]; rfl
            rw [e1, if_pos (show (ndOf c.m.nm q).kind = 2 from HKQ.out)] at this
            rw [this, Int.add_assoc]; rfl
          · by_cases e : j = k
            · subst e; rw [HQ.out]; exact h1
            · exact G1.mono _ (HD.out j (by omega))
        case measure => simp [intOf]; omega
      · have asl := as_let_no (d := (c.m.nm q).toND) nk2 hkq
        have HKQ : Hid _ := hkq
        go_wp2_with fail
        go_roundw
        case rel =>
          refine ⟨k + 1, d1, by omega, by go_num, Ctx.St.hs (Ctx.St.onw S1' (Onw.alloc _ _)) fun v hv => ?_, hBx1.onw (Onw.alloc _ _), (K.trans K1).trans (Ctx.Keep.onw (Onw.alloc _ _)), G.trans G1, fun j hj => ?_⟩
          · have := letS_step c.m.nv (ndOf c.m.nm) p k v
            have e1 : ((ndOf c.m.nm p).kd k).toNat = q := by show ((c.m.nm p).kd k).toNat = q; rw [HQ.out]; rfl
            rw [e1, if_neg (show ¬ (ndOf c.m.nm q).kind = 2 from HKQ.out)] at this
            rw [this, Int.add_zero]
          · by_cases e : j = k
            · subst e; rw [HQ.out]; exact h1
            · exact G1.mono _ (HD.out j (by omega))
        case measure => simp [intOf]; omega
    · have : k = (c.m.nm p).nk := by omega
      subst this
      have x := hBx.cell
      go_wp2_with fail
      clear x hBx
      obtain ⟨w0, hw0⟩ : ∃ x, x = wr := ⟨_, rfl⟩
      subst hw0
      have HS : Hid _ := S
      clear S
      go_loopw [48] (fun i wr => ∃ (k : Nat), k ≤ (c.m.nm p).nk ∧ i = .int .i64 k ∧ c.Std wr (c.L p) (fun x => c.H p x + letS c.m.nv (ndOf c.m.nm) p (c.m.nm p).nk x - letS c.m.nv (ndOf c.m.nm) p k x) dk ∧ c.Keep w wr) (fun i _ => (c.m.nm p).nk - (intOf i).toNat)
      case atStart => exact ⟨0, Nat.zero_le _, rfl, Ctx.St.hs HS.out (fun v _ => by simp [letS]), K⟩
      case round =>
        clear K
        obtain ⟨k, hk, rfl, S, K⟩ := hrel
        by_cases hlt : k < (c.m.nm p).nk
        · obtain ⟨b, off, rfl, hc⟩ := hI.onw S.o (by omega)
          have hck := hc k hlt
          obtain ⟨q0, q1⟩ := OK.out.kids p hp k hlt
          obtain ⟨q, hq⟩ := Int.eq_ofNat_of_zero_le q0
          have HQ : Hid _ := hq
          rw [hq] at hck q1
          have hqp : q < p := by omega
          clear hc hq q0 q1
          have x := S.W.blk.cell
          have hq1 : q < c.m.nn := by omega
          obtain ⟨v, g1, kq, rfl, hI2, _⟩ := OK.out.hF q hq1
          have g2 := cell_onw S.o g1
          clear g1
          have nk2 := OK.out.nk q hq1
          by_cases hkq : (c.m.nm q).kind = 2
          · have asl := as_let_yes (d := (c.m.nm q).toND) nk2 hkq
            have hIr := (OK.out.hma.2.2.2 q hq1).1
            have hnr := (OK.out.hsm.2.2.2 q hq1).1
            have HKQ : Hid _ := hkq
            go_wp2_with fail
            refine (hold_down c OK.out _ _ _ (c.m.nm q).rf (c.L p) _ _ _ _ hnr hIr (HBd2.out k (by omega)) (Ctx.St.onw S (Onw.alloc _ _))).mono ?_
            rintro e w2 ⟨rfl, S2, K2⟩
            go_wp2_with fail
            go_roundw
            case rel =>
              refine ⟨k + 1, by omega, by go_num, Ctx.St.hs S2 fun v hv => ?_, (K.trans (Ctx.Keep.onw (Onw.alloc _ _))).trans K2⟩
              have := letS_step c.m.nv (ndOf c.m.nm) p k v
              have e1 : ((ndOf c.m.nm p).kd k).toNat = q := by show ((c.m.nm p).kd k).toNat = q; rw [HQ.out]; rfl
              rw [e1, if_pos (show (ndOf c.m.nm q).kind = 2 from HKQ.out)] at this
              show _ - letS c.m.nv (ndOf c.m.nm) p (k + 1) v = _ - letS c.m.nv (ndOf c.m.nm) p k v - cntV c.m.nv (ndOf c.m.nm q).rf (ndOf c.m.nm q).nr v
              rw [this]; omega
            case measure => simp [intOf]; omega
          · have asl := as_let_no (d := (c.m.nm q).toND) nk2 hkq
            have HKQ : Hid _ := hkq
            go_wp2_with fail
            go_roundw
            case rel =>
              refine ⟨k + 1, by omega, by go_num, Ctx.St.hs (Ctx.St.onw S (Onw.alloc _ _)) fun v hv => ?_, K.trans (Ctx.Keep.onw (Onw.alloc _ _))⟩
              have := letS_step c.m.nv (ndOf c.m.nm) p k v
              have e1 : ((ndOf c.m.nm p).kd k).toNat = q := by show ((c.m.nm p).kd k).toNat = q; rw [HQ.out]; rfl
              rw [e1, if_neg (show ¬ (ndOf c.m.nm q).kind = 2 from HKQ.out)] at this
              rw [this, Int.add_zero]
            case measure => simp [intOf]; omega
        · have : k = (c.m.nm p).nk := by omega
          subst this
          go_wp2_with fail
          go_end0
          exact ⟨dk, rfl, Ctx.St.hs S (fun v hv => by omega), K, G, HD.out⟩
end Go.Proofs.YtnokgdgikdgaeaaGreat
