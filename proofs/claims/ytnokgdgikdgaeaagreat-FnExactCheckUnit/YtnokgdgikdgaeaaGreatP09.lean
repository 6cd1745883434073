import Derived.Test.YtnokgdgikdgaeaaGreatP08
namespace Go.Proofs.YtnokgdgikdgaeaaGreat
open Go.RowKit
attribute [local go_sem] run_store_float

theorem Ctx.St.mark {c : Ctx} (ok : c.Ok) {w : World} {l : Int} {h : Nat → Int} {a b : Nat → Bool} (S : c.St w l h a b) (p : Nat) (v : Bool) :
    c.St (w.setCell ⟨c.sb, p * 2, none⟩ (.bool v)) l h (fun k => if k = p then v else a k) b ∧ c.Keep w (w.setCell ⟨c.sb, p * 2, none⟩ (.bool v)) := by
  obtain ⟨o, W, ⟨cur, B, A⟩, sc, B2, S2⟩ := S
  have K : Kept (· ≠ c.sb) w (w.setCell ⟨c.sb, p * 2, none⟩ (.bool v)) := Kept.set (Kept.refl _ _) (by simp) _
  exact ⟨⟨below_set o ok.zsb _, ⟨W.blk.kept K ok.ne2⟩, ⟨cur, B.kept K ok.ne3, A⟩, _, B2.set _ _, S2.set0 p v⟩, ⟨by rw [World.size_setCell]; exact Nat.le_refl _, fun x hx => K x hx.2.2.2⟩⟩
theorem Ctx.St.mark1 {c : Ctx} (ok : c.Ok) {w : World} {l : Int} {h : Nat → Int} {a b : Nat → Bool} (S : c.St w l h a b) (p : Nat) (v : Bool) :
    c.St (w.setCell ⟨c.sb, p * 2 + 1, none⟩ (.bool v)) l h a (fun k => if k = p then v else b k) ∧ c.Keep w (w.setCell ⟨c.sb, p * 2 + 1, none⟩ (.bool v)) := by
  obtain ⟨o, W, ⟨cur, B, A⟩, sc, B2, S2⟩ := S
  have K : Kept (· ≠ c.sb) w (w.setCell ⟨c.sb, p * 2 + 1, none⟩ (.bool v)) := Kept.set (Kept.refl _ _) (by simp) _
  exact ⟨⟨below_set o ok.zsb _, ⟨W.blk.kept K ok.ne2⟩, ⟨cur, B.kept K ok.ne3, A⟩, _, B2.set _ _, S2.set1 p v⟩, ⟨by rw [World.size_setCell]; exact Nat.le_refl _, fun x hx => K x hx.2.2.2⟩⟩
/-- One node more. -/
def addD (dn : Nat → Bool) (p : Nat) : Nat → Bool := fun n => dn n || decide (n = p)
theorem addD_self (dn : Nat → Bool) (p : Nat) : addD dn p p = true := by simp [addD]
theorem addD_mono {dn : Nat → Bool} {p n : Nat} (h : dn n = true) : addD dn p n = true := by simp [addD, h]
theorem addD_cases {dn : Nat → Bool} {p n : Nat} (h : addD dn p n = true) : dn n = true ∨ n = p := by simpa [addD] using h
/-- The node itself, marked: the rest is below it. -/
theorem Ctx.St.marked {c : Ctx} (ok : c.Ok) {w : World} {dn : Nat → Bool} {l : Int} {h : Nat → Int} (p : Nat) (hf : c.fnd p = false) (S : c.Std w l h dn) :
    c.Std ((w.setCell ⟨c.sb, p * 2, none⟩ (.bool (c.inL p))).drew) l h (addD dn p) ∧ c.Keep w ((w.setCell ⟨c.sb, p * 2, none⟩ (.bool (c.inL p))).drew) := by
  obtain ⟨S1, K1⟩ := Ctx.St.mark ok S p (c.inL p)
  have O : Onw (w.setCell ⟨c.sb, p * 2, none⟩ (.bool (c.inL p))) ((w.setCell ⟨c.sb, p * 2, none⟩ (.bool (c.inL p))).drew) := Below.drew (Onw.refl _)
  refine ⟨(S1.onw O).congr (fun _ _ => rfl) (fun k _ => ?_) (fun k _ => ?_), K1.trans (Ctx.Keep.onw O)⟩
  · by_cases e : k = p
    · subst e; simp [addD]
    · simp [addD, e]
  · by_cases e : k = p
    · subst e; simp [addD, hf]
    · simp [addD, e]
/-- All kids have been seen. -/
theorem Ctx.Grow.up {c : Ctx} {dn d' : Nat → Bool} {p : Nat} (G : c.Grow (addD dn p) d') (hk : ∀ j, j < (c.m.nm p).nk → d' ((c.m.nm p).kd j).toNat = true) : c.Grow dn d' ∧ d' p = true := by
  refine ⟨⟨fun n hn => G.mono n (addD_mono hn), fun n hl hn => ?_⟩, G.mono p (addD_self _ _)⟩
  rcases G.shut n hl hn with h | h
  · rcases addD_cases h with h | h
    · exact Or.inl h
    · subst h; exact Or.inr hk
  · exact Or.inr h
theorem Ctx.VisitOk.call {c : Ctx} {q : Nat} (V : c.VisitOk q) {l : Int} {h : Nat → Int} (hl : c.L q = l) (hh : ∀ v, v < c.m.nv → c.H q v = h v) (w : World) (dn : Nat → Bool) (S : c.Std w l h dn) :
    Calls Tryz.prog 42 #[.pointer (some ⟨c.wb, 0, none⟩), .int .i64 q] w fun e w' => ∃ dn', e = .returned (.tuple #[]) ∧ c.Std w' l h dn' ∧ c.Keep w w' ∧ c.Grow dn dn' ∧ dn' q = true := by
  subst hl
  refine (V w dn (Ctx.St.hs S hh)).mono ?_
  rintro e w' ⟨d, rfl, S1, h2⟩
  exact ⟨d, rfl, Ctx.St.hs S1 (fun v hv => (hh v hv).symm), h2⟩

set_option maxRecDepth 100000 in
set_option maxHeartbeats 4000000 in
theorem visit_block (c : Ctx) (ok : c.Ok) (p : Nat) (hp : p < c.m.nn) (hk : (c.m.nm p).kind = 1) (ih : ∀ q, q < p → c.VisitOk q) : c.VisitOk p := by
  intro w dn S
  have nk2 := ok.nk p hp
  have x := S.W.blk.cell
  obtain ⟨sc, sB, sA⟩ := S.S
  have y0 : w.cell? ⟨c.sb, p * 2, none⟩ = some (.bool (dn p && c.inL p)) := by rw [sB.cell]; exact (sA.2 p hp).1
  have fs := sB.free
  have ay := as_block_yes (d := (c.m.nm p).toND) nk2 (by omega)
  have HK : Hid _ := hk
  have IH : Hid _ := ih
  have fz : c.fnd p = false := by unfold Ctx.fnd; rw [hk]; rfl
  clear hk ih
  have x4 : w.cell? ⟨c.wb, 4, none⟩ = some (.int .i64 (c.L p)) := by rw [x]; rfl
  have x5 : w.cell? ⟨c.wb, 5, none⟩ = some (.slice (some ⟨c.sb, 0, none⟩) c.m.nn c.m.nn) := by rw [x]; rfl
  have ne2 := ok.ne2
  have ne2' := Ne.symm ok.ne2
  clear x
  go_enter Tryz.func42, Tryz.ntmps42
  go_wp2_with fail
  go_region_held3 (fun w' => w'.cell? ⟨c.wb, 4, none⟩ = some (.int .i64 (c.L p)) ∧ w'.cell? ⟨c.wb, 5, none⟩ = some (.slice (some ⟨c.sb, 0, none⟩) c.m.nn c.m.nn)) (go_keep) (fail)
  obtain ⟨S1, K1⟩ := Ctx.St.marked ok p fz S
  have e0 : (decide (0 < c.L p)) = c.inL p := rfl
  rw [e0]
  generalize (w.setCell ⟨c.sb, p * 2, none⟩ (.bool (c.inL p))).drew = w1 at *
  clear x4 x5 y0 fs S sB sA
  obtain ⟨v, g1, kq, hv, hI2, _⟩ := ok.hF p hp
  subst hv
  have g2 := cell_onw S1.o g1
  have x := S1.W.blk.cell
  clear g1
  go_wp2_with fail
  refine (visitBlock_any c ok p kq _ _ _ (addD dn p) hp HK.out IH.out (Ctx.St.onw S1 (Onw.alloc _ _))).mono ?_
  rintro e w2 ⟨d2, rfl, S2, K2, G2, h2⟩
  go_wp2_with fail
  go_end0
  obtain ⟨G3, h3⟩ := G2.up h2
  exact ⟨d2, rfl, S2, (K1.trans (Ctx.Keep.onw (Onw.alloc _ _))).trans K2, G3, h3⟩

set_option maxRecDepth 100000 in
set_option maxHeartbeats 4000000 in
theorem visit_while (c : Ctx) (ok : c.Ok) (p : Nat) (hp : p < c.m.nn) (hk : (c.m.nm p).kind = 6) (ih : ∀ q, q < p → c.VisitOk q) : c.VisitOk p := by
  intro w dn S
  have nk2 := ok.nk p hp
  have x := S.W.blk.cell
  obtain ⟨sc, sB, sA⟩ := S.S
  have y0 : w.cell? ⟨c.sb, p * 2, none⟩ = some (.bool (dn p && c.inL p)) := by rw [sB.cell]; exact (sA.2 p hp).1
  have fs := sB.free
  have a0 := as_block_no (d := (c.m.nm p).toND) nk2 (by omega)
  have ay := as_while_yes (d := (c.m.nm p).toND) nk2 (by omega)
  have HK : Hid _ := hk
  have IH : Hid _ := ih
  have fz : c.fnd p = false := by unfold Ctx.fnd; rw [hk]; rfl
  clear hk ih
  have x4 : w.cell? ⟨c.wb, 4, none⟩ = some (.int .i64 (c.L p)) := by rw [x]; rfl
  have x5 : w.cell? ⟨c.wb, 5, none⟩ = some (.slice (some ⟨c.sb, 0, none⟩) c.m.nn c.m.nn) := by rw [x]; rfl
  have ne2 := ok.ne2
  have ne2' := Ne.symm ok.ne2
  clear x
  go_enter Tryz.func42, Tryz.ntmps42
  go_wp2_with fail
  go_region_held3 (fun w' => w'.cell? ⟨c.wb, 4, none⟩ = some (.int .i64 (c.L p)) ∧ w'.cell? ⟨c.wb, 5, none⟩ = some (.slice (some ⟨c.sb, 0, none⟩) c.m.nn c.m.nn)) (go_keep) (fail)
  obtain ⟨S1, K1⟩ := Ctx.St.marked ok p fz S
  have e0 : (decide (0 < c.L p)) = c.inL p := rfl
  rw [e0]
  generalize (w.setCell ⟨c.sb, p * 2, none⟩ (.bool (c.inL p))).drew = w1 at *
  clear x4 x5 y0 fs S sB sA
  obtain ⟨v, g1, kq, hv, hI2, _⟩ := ok.hF p hp
  subst hv
  have g2 := cell_onw S1.o g1
  have x := S1.W.blk.cell
  clear g1
  have hnk : (c.m.nm p).nk = 2 := ok.k2 p hp (Or.inl HK.out)
  obtain ⟨b, off, hka, hc⟩ := (ok.hma.2.2.2 p hp).2 (by omega)
  have z1 := S1.W.blk.lt
  obtain ⟨⟨_, hB0, _⟩, ⟨_, sB0, _⟩⟩ := And.intro S1.H S1.S
  have z2 := hB0.lt
  have z3 := sB0.lt
  have n1 : w1.heap.size ≠ c.wb := by omega
  have n2 : w1.heap.size ≠ c.hb := by omega
  have n3 : w1.heap.size ≠ c.sb := by omega
  have hL := ok.hL p hp
  have L0 := hL.1
  have L1 := hL.2
  have kb0 := ok.kids p hp 0 (by omega)
  obtain ⟨q0, hq0⟩ := Int.eq_ofNat_of_zero_le kb0.1
  have HQ0 : Hid _ := hq0
  have lt0 : q0 < p := by omega
  have d0 := hc 0 (by omega)
  rw [hq0] at d0
  try simp only [Nat.add_zero] at d0
  have e0' := d0
  have e0 := cell_onw S1.o d0
  have zc0 := cell_lt e0
  have EL0 : Hid (c.L q0 = c.L p) := by
    show _ = _
    have := ok.eL p hp 0 (by omega)
    rw [hq0, HK.out, hnk] at this
    simpa [loopK] using this
  have EH0 : Hid (∀ v, v < c.m.nv → c.H q0 v = c.H p v) := fun v hv => by
    have := ok.eH p hp 0 (by omega) v hv
    rw [hq0, HK.out, hnk] at this
    simpa [headK] using this
  clear hq0 kb0 d0
  have kb1 := ok.kids p hp 1 (by omega)
  obtain ⟨q1, hq1⟩ := Int.eq_ofNat_of_zero_le kb1.1
  have HQ1 : Hid _ := hq1
  have lt1 : q1 < p := by omega
  have d1 := hc 1 (by omega)
  rw [hq1] at d1
  try simp only [Nat.add_zero] at d1
  have e1' := d1
  have e1 := cell_onw S1.o d1
  have zc1 := cell_lt e1
  have EL1 : Hid (c.L q1 = c.L p + 1) := by
    show _ = _
    have := ok.eL p hp 1 (by omega)
    rw [hq1, HK.out, hnk] at this
    simpa [loopK] using this
  have EH1 : Hid (∀ v, v < c.m.nv → c.H q1 v = c.H p v) := fun v hv => by
    have := ok.eH p hp 1 (by omega) v hv
    rw [hq1, HK.out, hnk] at this
    simpa [headK] using this
  clear hq1 kb1 d1
  have HNK : Hid _ := hnk
  have HB : Hid (∀ x, 0 ≤ c.H p x ∧ c.H p x ≤ 1000000000000) := ok.hH p hp
  have hIr := (ok.hma.2.2.2 p hp).1
  have hnr := (ok.hsm.2.2.2 p hp).1
  rw [hka, hnk] at g2
  clear hc hka hnk hL hB0 sB0
  go_wp2_with fail
  refine ((IH.out q0 lt0).call EL0.out EH0.out _ (addD dn p) (Ctx.St.onw S1 (Onw.alloc _ _))).mono ?_
  rintro e w2 ⟨d2, rfl, S2', K2, G2, h2⟩
  have bx := (K2.blk n1 n2 n3 (Blk.new w1 127 #[.int .i64 p, .int .i64 (c.m.nm p).kind, .int .i64 (c.m.nm p).line, .int .i64 (c.m.nm p).op, .int .i64 (c.m.nm p).num, .float .f64 (c.m.nm p).flt, .string (c.m.nm p).str, .slice (c.m.nm p).ra (c.m.nm p).nr (c.m.nm p).rc, .slice (some ⟨b, off, none⟩) 2 (c.m.nm p).kc, .slice kq (knN (c.m.nm p).toND) (knN (c.m.nm p).toND)])).cell
  have f1 := cell_onw S2'.o (show c.w0.cell? ⟨b, off + 1, none⟩ = some (.int .i64 q1) from e1')
  clear e0 e1
  go_wp2_with fail
  refine (visitLoop_any c ok q1 none 0 0 (fun _ => 0) (c.L p) (c.H p) _ d2 (by omega) (fun h => absurd h (Nat.lt_irrefl 0)) (IH.out q1 lt1) L0 L1 EL1.out (fun v hv => by rw [EH1.out v hv]; simp [cntV]) HB.out S2').mono ?_
  rintro e w3 ⟨d3, rfl, S3, K3, G3, h3⟩
  go_wp2_with fail
  go_end0
  obtain ⟨G9, h9⟩ := Ctx.Grow.up (p := p) (G2.trans G3) (fun j hj => by
    have hj' : j < 2 := by have := HNK.out; omega
    have cs : j = 0 ∨ j = 1 := by omega
    rcases cs with rfl | rfl
    · rw [HQ0.out]; exact G3.mono _ h2
    · rw [HQ1.out]; exact h3)
  exact ⟨d3, rfl, S3, ((K1.trans (Ctx.Keep.onw (Onw.alloc _ _))).trans K2).trans K3, G9, h9⟩

set_option maxRecDepth 100000 in
set_option maxHeartbeats 4000000 in
theorem visit_try (c : Ctx) (ok : c.Ok) (p : Nat) (hp : p < c.m.nn) (hk : (c.m.nm p).kind = 12) (ih : ∀ q, q < p → c.VisitOk q) : c.VisitOk p := by
  intro w dn S
  have nk2 := ok.nk p hp
  have x := S.W.blk.cell
  obtain ⟨sc, sB, sA⟩ := S.S
  have y0 : w.cell? ⟨c.sb, p * 2, none⟩ = some (.bool (dn p && c.inL p)) := by rw [sB.cell]; exact (sA.2 p hp).1
  have fs := sB.free
  have a0 := as_block_no (d := (c.m.nm p).toND) nk2 (by omega)
  have a1 := as_while_no (d := (c.m.nm p).toND) nk2 (by omega)
  have a2 := as_for_no (d := (c.m.nm p).toND) nk2 (by omega)
  have a3 := as_each_no (d := (c.m.nm p).toND) nk2 (by omega)
  have ay := as_try_yes (d := (c.m.nm p).toND) nk2 (by omega)
  have HK : Hid _ := hk
  have IH : Hid _ := ih
  have fz : c.fnd p = false := by unfold Ctx.fnd; rw [hk]; rfl
  clear hk ih
  have x4 : w.cell? ⟨c.wb, 4, none⟩ = some (.int .i64 (c.L p)) := by rw [x]; rfl
  have x5 : w.cell? ⟨c.wb, 5, none⟩ = some (.slice (some ⟨c.sb, 0, none⟩) c.m.nn c.m.nn) := by rw [x]; rfl
  have ne2 := ok.ne2
  have ne2' := Ne.symm ok.ne2
  clear x
  go_enter Tryz.func42, Tryz.ntmps42
  go_wp2_with fail
  go_region_held3 (fun w' => w'.cell? ⟨c.wb, 4, none⟩ = some (.int .i64 (c.L p)) ∧ w'.cell? ⟨c.wb, 5, none⟩ = some (.slice (some ⟨c.sb, 0, none⟩) c.m.nn c.m.nn)) (go_keep) (fail)
  obtain ⟨S1, K1⟩ := Ctx.St.marked ok p fz S
  have e0 : (decide (0 < c.L p)) = c.inL p := rfl
  rw [e0]
  generalize (w.setCell ⟨c.sb, p * 2, none⟩ (.bool (c.inL p))).drew = w1 at *
  clear x4 x5 y0 fs S sB sA
  obtain ⟨v, g1, kq, hv, hI2, _⟩ := ok.hF p hp
  subst hv
  have g2 := cell_onw S1.o g1
  have x := S1.W.blk.cell
  clear g1
  have hnk : (c.m.nm p).nk = 2 := ok.k2 p hp (Or.inr (Or.inr HK.out))
  obtain ⟨b, off, hka, hc⟩ := (ok.hma.2.2.2 p hp).2 (by omega)
  have z1 := S1.W.blk.lt
  obtain ⟨⟨_, hB0, _⟩, ⟨_, sB0, _⟩⟩ := And.intro S1.H S1.S
  have z2 := hB0.lt
  have z3 := sB0.lt
  have n1 : w1.heap.size ≠ c.wb := by omega
  have n2 : w1.heap.size ≠ c.hb := by omega
  have n3 : w1.heap.size ≠ c.sb := by omega
  have hL := ok.hL p hp
  have L0 := hL.1
  have L1 := hL.2
  have kb0 := ok.kids p hp 0 (by omega)
  obtain ⟨q0, hq0⟩ := Int.eq_ofNat_of_zero_le kb0.1
  have HQ0 : Hid _ := hq0
  have lt0 : q0 < p := by omega
  have d0 := hc 0 (by omega)
  rw [hq0] at d0
  try simp only [Nat.add_zero] at d0
  have e0' := d0
  have e0 := cell_onw S1.o d0
  have zc0 := cell_lt e0
  have EL0 : Hid (c.L q0 = c.L p) := by
    show _ = _
    have := ok.eL p hp 0 (by omega)
    rw [hq0, HK.out, hnk] at this
    simpa [loopK] using this
  have EH0 : Hid (∀ v, v < c.m.nv → c.H q0 v = c.H p v) := fun v hv => by
    have := ok.eH p hp 0 (by omega) v hv
    rw [hq0, HK.out, hnk] at this
    simpa [headK] using this
  clear hq0 kb0 d0
  have kb1 := ok.kids p hp 1 (by omega)
  obtain ⟨q1, hq1⟩ := Int.eq_ofNat_of_zero_le kb1.1
  have HQ1 : Hid _ := hq1
  have lt1 : q1 < p := by omega
  have d1 := hc 1 (by omega)
  rw [hq1] at d1
  try simp only [Nat.add_zero] at d1
  have e1' := d1
  have e1 := cell_onw S1.o d1
  have zc1 := cell_lt e1
  have EL1 : Hid (c.L q1 = c.L p) := by
    show _ = _
    have := ok.eL p hp 1 (by omega)
    rw [hq1, HK.out, hnk] at this
    simpa [loopK] using this
  have EH1 : Hid (∀ v, v < c.m.nv → c.H q1 v = c.H p v + cntV c.m.nv (c.m.nm p).rf (c.m.nm p).nr v) := fun v hv => by
    have := ok.eH p hp 1 (by omega) v hv
    rw [hq1, HK.out, hnk] at this
    simpa [headK] using this
  clear hq1 kb1 d1
  have HNK : Hid _ := hnk
  have HB : Hid (∀ x, 0 ≤ c.H p x ∧ c.H p x ≤ 1000000000000) := ok.hH p hp
  have hIr := (ok.hma.2.2.2 p hp).1
  have hnr := (ok.hsm.2.2.2 p hp).1
  rw [hka, hnk] at g2
  clear hc hka hnk hL hB0 sB0
  go_wp2_with fail
  refine ((IH.out q0 lt0).call EL0.out EH0.out _ (addD dn p) (Ctx.St.onw S1 (Onw.alloc _ _))).mono ?_
  rintro e w2 ⟨d2, rfl, S2', K2, G2, h2⟩
  have BX := K2.blk n1 n2 n3 (Blk.new w1 100 #[.int .i64 p, .int .i64 (c.m.nm p).kind, .int .i64 (c.m.nm p).line, .int .i64 (c.m.nm p).op, .int .i64 (c.m.nm p).num, .float .f64 (c.m.nm p).flt, .string (c.m.nm p).str, .slice (c.m.nm p).ra (c.m.nm p).nr (c.m.nm p).rc, .slice (some ⟨b, off, none⟩) 2 (c.m.nm p).kc, .slice kq (knN (c.m.nm p).toND) (knN (c.m.nm p).toND)])
  have bx := BX.cell
  have f1 := cell_onw S2'.o (show c.w0.cell? ⟨b, off + 1, none⟩ = some (.int .i64 q1) from e1')
  clear e0 e1 f1
  go_wp2_with fail
  refine (hold_up c ok _ _ _ (c.m.nm p).rf (c.L p) (c.H p) _ _ _ hnr hIr (fun x => by have := HB.out x; omega) S2').mono ?_
  rintro e w3 ⟨rfl, S3, K3⟩
  clear bx
  have BX3 := K3.blk n1 n2 n3 BX
  have bx := BX3.cell
  have f1 := cell_onw S3.o (show c.w0.cell? ⟨b, off + 1, none⟩ = some (.int .i64 q1) from e1')
  go_wp2_with fail
  refine ((IH.out q1 lt1).call EL1.out EH1.out _ d2 S3).mono ?_
  rintro e w4 ⟨d4, rfl, S4, K4, G4, h4⟩
  clear bx f1
  have BX4 := K4.blk n1 n2 n3 BX3
  have bx := BX4.cell
  go_wp2_with fail
  refine (hold_down c ok _ _ _ (c.m.nm p).rf (c.L p) _ _ _ _ hnr hIr (fun x => by have := HB.out x; have := cntV_le c.m.nv (c.m.nm p).rf (c.m.nm p).nr x; omega) S4).mono ?_
  rintro e w5 ⟨rfl, S5, K5⟩
  go_wp2_with fail
  go_end0
  obtain ⟨G9, h9⟩ := Ctx.Grow.up (p := p) (G2.trans G4) (fun j hj => by
    have hj' : j < 2 := by have := HNK.out; omega
    have cs : j = 0 ∨ j = 1 := by omega
    rcases cs with rfl | rfl
    · rw [HQ0.out]; exact G4.mono _ h2
    · rw [HQ1.out]; exact h4)
  exact ⟨d4, rfl, Ctx.St.hs S5 (fun v hv => by show _ = _ + _ - _; omega), ((((K1.trans (Ctx.Keep.onw (Onw.alloc _ _))).trans K2).trans K3).trans K4).trans K5, G9, h9⟩

set_option maxRecDepth 100000 in
set_option maxHeartbeats 4000000 in
theorem visit_each (c : Ctx) (ok : c.Ok) (p : Nat) (hp : p < c.m.nn) (hk : (c.m.nm p).kind = 8) (ih : ∀ q, q < p → c.VisitOk q) : c.VisitOk p := by
  intro w dn S
  have nk2 := ok.nk p hp
  have x := S.W.blk.cell
  obtain ⟨sc, sB, sA⟩ := S.S
  have y0 : w.cell? ⟨c.sb, p * 2, none⟩ = some (.bool (dn p && c.inL p)) := by rw [sB.cell]; exact (sA.2 p hp).1
  have fs := sB.free
  have a0 := as_block_no (d := (c.m.nm p).toND) nk2 (by omega)
  have a1 := as_while_no (d := (c.m.nm p).toND) nk2 (by omega)
  have a2 := as_for_no (d := (c.m.nm p).toND) nk2 (by omega)
  have ay := as_each_yes (d := (c.m.nm p).toND) nk2 (by omega)
  have HK : Hid _ := hk
  have IH : Hid _ := ih
  have fz : c.fnd p = false := by unfold Ctx.fnd; rw [hk]; rfl
  clear hk ih
  have x4 : w.cell? ⟨c.wb, 4, none⟩ = some (.int .i64 (c.L p)) := by rw [x]; rfl
  have x5 : w.cell? ⟨c.wb, 5, none⟩ = some (.slice (some ⟨c.sb, 0, none⟩) c.m.nn c.m.nn) := by rw [x]; rfl
  have ne2 := ok.ne2
  have ne2' := Ne.symm ok.ne2
  clear x
  go_enter Tryz.func42, Tryz.ntmps42
  go_wp2_with fail
  go_region_held3 (fun w' => w'.cell? ⟨c.wb, 4, none⟩ = some (.int .i64 (c.L p)) ∧ w'.cell? ⟨c.wb, 5, none⟩ = some (.slice (some ⟨c.sb, 0, none⟩) c.m.nn c.m.nn)) (go_keep) (fail)
  obtain ⟨S1, K1⟩ := Ctx.St.marked ok p fz S
  have e0 : (decide (0 < c.L p)) = c.inL p := rfl
  rw [e0]
  generalize (w.setCell ⟨c.sb, p * 2, none⟩ (.bool (c.inL p))).drew = w1 at *
  clear x4 x5 y0 fs S sB sA
  obtain ⟨v, g1, kq, hv, hI2, _⟩ := ok.hF p hp
  subst hv
  have g2 := cell_onw S1.o g1
  have x := S1.W.blk.cell
  clear g1
  have hnk : (c.m.nm p).nk = 2 := ok.k2 p hp (Or.inr (Or.inl HK.out))
  obtain ⟨b, off, hka, hc⟩ := (ok.hma.2.2.2 p hp).2 (by omega)
  have z1 := S1.W.blk.lt
  obtain ⟨⟨_, hB0, _⟩, ⟨_, sB0, _⟩⟩ := And.intro S1.H S1.S
  have z2 := hB0.lt
  have z3 := sB0.lt
  have n1 : w1.heap.size ≠ c.wb := by omega
  have n2 : w1.heap.size ≠ c.hb := by omega
  have n3 : w1.heap.size ≠ c.sb := by omega
  have hL := ok.hL p hp
  have L0 := hL.1
  have L1 := hL.2
  have kb0 := ok.kids p hp 0 (by omega)
  obtain ⟨q0, hq0⟩ := Int.eq_ofNat_of_zero_le kb0.1
  have HQ0 : Hid _ := hq0
  have lt0 : q0 < p := by omega
  have d0 := hc 0 (by omega)
  rw [hq0] at d0
  try simp only [Nat.add_zero] at d0
  have e0' := d0
  have e0 := cell_onw S1.o d0
  have zc0 := cell_lt e0
  have EL0 : Hid (c.L q0 = c.L p) := by
    show _ = _
    have := ok.eL p hp 0 (by omega)
    rw [hq0, HK.out, hnk] at this
    simpa [loopK] using this
  have EH0 : Hid (∀ v, v < c.m.nv → c.H q0 v = c.H p v) := fun v hv => by
    have := ok.eH p hp 0 (by omega) v hv
    rw [hq0, HK.out, hnk] at this
    simpa [headK] using this
  clear hq0 kb0 d0
  have kb1 := ok.kids p hp 1 (by omega)
  obtain ⟨q1, hq1⟩ := Int.eq_ofNat_of_zero_le kb1.1
  have HQ1 : Hid _ := hq1
  have lt1 : q1 < p := by omega
  have d1 := hc 1 (by omega)
  rw [hq1] at d1
  try simp only [Nat.add_zero] at d1
  have e1' := d1
  have e1 := cell_onw S1.o d1
  have zc1 := cell_lt e1
  have EL1 : Hid (c.L q1 = c.L p + 1) := by
    show _ = _
    have := ok.eL p hp 1 (by omega)
    rw [hq1, HK.out, hnk] at this
    simpa [loopK] using this
  have EH1 : Hid (∀ v, v < c.m.nv → c.H q1 v = c.H p v + cntV c.m.nv (c.m.nm p).rf (c.m.nm p).nr v) := fun v hv => by
    have := ok.eH p hp 1 (by omega) v hv
    rw [hq1, HK.out, hnk] at this
    simpa [headK] using this
  clear hq1 kb1 d1
  have HNK : Hid _ := hnk
  have HB : Hid (∀ x, 0 ≤ c.H p x ∧ c.H p x ≤ 1000000000000) := ok.hH p hp
  have hIr := (ok.hma.2.2.2 p hp).1
  have hnr := (ok.hsm.2.2.2 p hp).1
  rw [hka, hnk] at g2
  clear hc hka hnk hL hB0 sB0
  go_wp2_with fail
  refine ((IH.out q0 lt0).call EL0.out EH0.out _ (addD dn p) (Ctx.St.onw S1 (Onw.alloc _ _))).mono ?_
  rintro e w2 ⟨d2, rfl, S2', K2, G2, h2⟩
  have BX := K2.blk n1 n2 n3 (Blk.new w1 99 #[.int .i64 p, .int .i64 (c.m.nm p).kind, .int .i64 (c.m.nm p).line, .int .i64 (c.m.nm p).op, .int .i64 (c.m.nm p).num, .float .f64 (c.m.nm p).flt, .string (c.m.nm p).str, .slice (c.m.nm p).ra (c.m.nm p).nr (c.m.nm p).rc, .slice (some ⟨b, off, none⟩) 2 (c.m.nm p).kc, .slice kq (knN (c.m.nm p).toND) (knN (c.m.nm p).toND)])
  have bx := BX.cell
  have f1 := cell_onw S2'.o (show c.w0.cell? ⟨b, off + 1, none⟩ = some (.int .i64 q1) from e1')
  clear e0 e1
  have b7 : w2.cell? ⟨w1.heap.size, 7, none⟩ = some (.slice (c.m.nm p).ra (c.m.nm p).nr (c.m.nm p).rc) := by rw [bx]; rfl
  have b8 : w2.cell? ⟨w1.heap.size, 8, none⟩ = some (.slice (some ⟨b, off, none⟩) 2 (c.m.nm p).kc) := by rw [bx]; rfl
  clear bx
  go_wp2_with fail
  go_region_held3 (fun w' => w'.cell? ⟨w1.heap.size, 7, none⟩ = some (.slice (c.m.nm p).ra (c.m.nm p).nr (c.m.nm p).rc) ∧ w'.cell? ⟨w1.heap.size, 8, none⟩ = some (.slice (some ⟨b, off, none⟩) 2 (c.m.nm p).kc) ∧ w'.cell? ⟨b, off + 1, none⟩ = some (.int .i64 q1)) (go_keep)
    (first | (go_at_call 62; refine (visitLoop_any c ok q1 _ _ _ (c.m.nm p).rf (c.L p) (c.H p) _ d2 hnr hIr (IH.out q1 lt1) L0 L1 EL1.out EH1.out HB.out (Ctx.St.onw S2' (Below.drew (Onw.refl _)))).mono ?_; rintro e w3 ⟨d3, rfl, S3, K3, G3, h3⟩; have K3' := (Ctx.Keep.onw (c := c) (show Onw w2 w2.drew from Below.drew (Onw.refl _))).trans K3; have BX3 := K3'.blk n1 n2 n3 BX; have r7 := (BX3.cell 7).trans ((BX.cell 7).symm.trans b7); have r8 := (BX3.cell 8).trans ((BX.cell 8).symm.trans b8); have f3 := cell_onw S3.o (show c.w0.cell? ⟨b, off + 1, none⟩ = some (.int .i64 q1) from e1')))
  go_wp2_with fail
  go_end0
  obtain ⟨G9, h9⟩ := Ctx.Grow.up (p := p) (G2.trans G3) (fun j hj => by
    have hj' : j < 2 := by have := HNK.out; omega
    have cs : j = 0 ∨ j = 1 := by omega
    rcases cs with rfl | rfl
    · rw [HQ0.out]; exact G3.mono _ h2
    · rw [HQ1.out]; exact h3)
  exact ⟨d3, rfl, S3, ((K1.trans (Ctx.Keep.onw (Onw.alloc _ _))).trans K2).trans K3', G9, h9⟩
end Go.Proofs.YtnokgdgikdgaeaaGreat

namespace Go.Proofs.YtnokgdgikdgaeaaGreat
open Go.RowKit
attribute [local go_sem] run_store_float

set_option maxRecDepth 100000 in
set_option maxHeartbeats 4000000 in
theorem visit_for (c : Ctx) (ok : c.Ok) (p : Nat) (hp : p < c.m.nn) (hk : (c.m.nm p).kind = 7) (ih : ∀ q, q < p → c.VisitOk q) : c.VisitOk p := by
  intro w dn S
  have nk2 := ok.nk p hp
  have x := S.W.blk.cell
  obtain ⟨sc, sB, sA⟩ := S.S
  have y0 : w.cell? ⟨c.sb, p * 2, none⟩ = some (.bool (dn p && c.inL p)) := by rw [sB.cell]; exact (sA.2 p hp).1
  have fs := sB.free
  have a0 := as_block_no (d := (c.m.nm p).toND) nk2 (by omega)
  have a1 := as_while_no (d := (c.m.nm p).toND) nk2 (by omega)
  have ay := as_for_yes (d := (c.m.nm p).toND) nk2 (by omega)
  have HK : Hid _ := hk
  have IH : Hid _ := ih
  have fz : c.fnd p = false := by unfold Ctx.fnd; rw [hk]; rfl
  clear hk ih
  have x4 : w.cell? ⟨c.wb, 4, none⟩ = some (.int .i64 (c.L p)) := by rw [x]; rfl
  have x5 : w.cell? ⟨c.wb, 5, none⟩ = some (.slice (some ⟨c.sb, 0, none⟩) c.m.nn c.m.nn) := by rw [x]; rfl
  have ne2 := ok.ne2
  have ne2' := Ne.symm ok.ne2
  clear x
  go_enter Tryz.func42, Tryz.ntmps42
  go_wp2_with fail
  go_region_held3 (fun w' => w'.cell? ⟨c.wb, 4, none⟩ = some (.int .i64 (c.L p)) ∧ w'.cell? ⟨c.wb, 5, none⟩ = some (.slice (some ⟨c.sb, 0, none⟩) c.m.nn c.m.nn)) (go_keep) (fail)
  obtain ⟨S1, K1⟩ := Ctx.St.marked ok p fz S
  have e0 : (decide (0 < c.L p)) = c.inL p := rfl
  rw [e0]
  generalize (w.setCell ⟨c.sb, p * 2, none⟩ (.bool (c.inL p))).drew = w1 at *
  clear x4 x5 y0 fs S sB sA
  obtain ⟨v, g1, kq, hv, hI2, _⟩ := ok.hF p hp
  subst hv
  have g2 := cell_onw S1.o g1
  have x := S1.W.blk.cell
  clear g1
  have hnk : (c.m.nm p).nk = 4 := ok.k4 p hp HK.out
  obtain ⟨b, off, hka, hc⟩ := (ok.hma.2.2.2 p hp).2 (by omega)
  have z1 := S1.W.blk.lt
  obtain ⟨⟨_, hB0, _⟩, ⟨_, sB0, _⟩⟩ := And.intro S1.H S1.S
  have z2 := hB0.lt
  have z3 := sB0.lt
  have n1 : w1.heap.size ≠ c.wb := by omega
  have n2 : w1.heap.size ≠ c.hb := by omega
  have n3 : w1.heap.size ≠ c.sb := by omega
  have hL := ok.hL p hp
  have L0 := hL.1
  have L1 := hL.2
  have kb0 := ok.kids p hp 0 (by omega)
  obtain ⟨q0, hq0⟩ := Int.eq_ofNat_of_zero_le kb0.1
  have HQ0 : Hid _ := hq0
  have lt0 : q0 < p := by omega
  have d0 := hc 0 (by omega)
  rw [hq0] at d0
  try simp only [Nat.add_zero] at d0
  have e0' := d0
  have e0 := cell_onw S1.o d0
  have zc0 := cell_lt e0
  have EL0 : Hid (c.L q0 = c.L p) := by
    show _ = _
    have := ok.eL p hp 0 (by omega)
    rw [hq0, HK.out, hnk] at this
    simpa [loopK] using this
  have EH0 : Hid (∀ v, v < c.m.nv → c.H q0 v = c.H p v) := fun v hv => by
    have := ok.eH p hp 0 (by omega) v hv
    rw [hq0, HK.out, hnk] at this
    simpa [headK] using this
  clear hq0 kb0 d0
  have kb1 := ok.kids p hp 1 (by omega)
  obtain ⟨q1, hq1⟩ := Int.eq_ofNat_of_zero_le kb1.1
  have HQ1 : Hid _ := hq1
  have lt1 : q1 < p := by omega
  have d1 := hc 1 (by omega)
  rw [hq1] at d1
  try simp only [Nat.add_zero] at d1
  have e1' := d1
  have e1 := cell_onw S1.o d1
  have zc1 := cell_lt e1
  have EL1 : Hid (c.L q1 = c.L p) := by
    show _ = _
    have := ok.eL p hp 1 (by omega)
    rw [hq1, HK.out, hnk] at this
    simpa [loopK] using this
  have EH1 : Hid (∀ v, v < c.m.nv → c.H q1 v = c.H p v) := fun v hv => by
    have := ok.eH p hp 1 (by omega) v hv
    rw [hq1, HK.out, hnk] at this
    simpa [headK] using this
  clear hq1 kb1 d1
  have kb2 := ok.kids p hp 2 (by omega)
  obtain ⟨q2, hq2⟩ := Int.eq_ofNat_of_zero_le kb2.1
  have HQ2 : Hid _ := hq2
  have lt2 : q2 < p := by omega
  have d2 := hc 2 (by omega)
  rw [hq2] at d2
  try simp only [Nat.add_zero] at d2
  have e2' := d2
  have e2 := cell_onw S1.o d2
  have zc2 := cell_lt e2
  have EL2 : Hid (c.L q2 = c.L p) := by
    show _ = _
    have := ok.eL p hp 2 (by omega)
    rw [hq2, HK.out, hnk] at this
    simpa [loopK] using this
  have EH2 : Hid (∀ v, v < c.m.nv → c.H q2 v = c.H p v) := fun v hv => by
    have := ok.eH p hp 2 (by omega) v hv
    rw [hq2, HK.out, hnk] at this
    simpa [headK] using this
  clear hq2 kb2 d2
  have kb3 := ok.kids p hp 3 (by omega)
  obtain ⟨q3, hq3⟩ := Int.eq_ofNat_of_zero_le kb3.1
  have HQ3 : Hid _ := hq3
  have lt3 : q3 < p := by omega
  have d3 := hc 3 (by omega)
  rw [hq3] at d3
  try simp only [Nat.add_zero] at d3
  have e3' := d3
  have e3 := cell_onw S1.o d3
  have zc3 := cell_lt e3
  have EL3 : Hid (c.L q3 = c.L p + 1) := by
    show _ = _
    have := ok.eL p hp 3 (by omega)
    rw [hq3, HK.out, hnk] at this
    simpa [loopK] using this
  have EH3 : Hid (∀ v, v < c.m.nv → c.H q3 v = c.H p v + cntV c.m.nv (c.m.nm p).rf (c.m.nm p).nr v) := fun v hv => by
    have := ok.eH p hp 3 (by omega) v hv
    rw [hq3, HK.out, hnk] at this
    simpa [headK] using this
  clear hq3 kb3 d3
  have HNK : Hid _ := hnk
  have HB : Hid (∀ x, 0 ≤ c.H p x ∧ c.H p x ≤ 1000000000000) := ok.hH p hp
  have hIr := (ok.hma.2.2.2 p hp).1
  have hnr := (ok.hsm.2.2.2 p hp).1
  have hI4 := (ok.hma.2.2.2 p hp).2
  have kc4 := ok.kc p hp
  rw [hka, hnk] at hI4
  rw [hnk] at kc4
  have kc3 : (3 : Int) ≤ ((c.m.nm p).kc : Int) := by omega
  rw [hka, hnk] at g2
  clear hc hka hnk hL hB0 sB0
  clear e0 e1 e2 e3
  go_wp2_with fail
  refine (visitAll_any c (some ⟨b, off, none⟩) 3 _ (c.m.nm p).kd (c.L p) (c.H p) _ (addD dn p) (by omega) (ints_to hI4 (by omega)) (fun j hj => by
    have cs : j = 0 ∨ j = 1 ∨ j = 2 := by omega
    rcases cs with rfl | rfl | rfl
    · exact ⟨q0, HQ0.out, IH.out q0 lt0, EL0.out, EH0.out⟩
    · exact ⟨q1, HQ1.out, IH.out q1 lt1, EL1.out, EH1.out⟩
    · exact ⟨q2, HQ2.out, IH.out q2 lt2, EL2.out, EH2.out⟩) (Ctx.St.onw S1 (Onw.alloc _ _))).mono ?_
  rintro e w2 ⟨d2, rfl, S2', K2, G2, h2⟩
  have BX := K2.blk n1 n2 n3 (Blk.new w1 98 #[.int .i64 p, .int .i64 (c.m.nm p).kind, .int .i64 (c.m.nm p).line, .int .i64 (c.m.nm p).op, .int .i64 (c.m.nm p).num, .float .f64 (c.m.nm p).flt, .string (c.m.nm p).str, .slice (c.m.nm p).ra (c.m.nm p).nr (c.m.nm p).rc, .slice (some ⟨b, off, none⟩) 4 (c.m.nm p).kc, .slice kq (knN (c.m.nm p).toND) (knN (c.m.nm p).toND)])
  have bx := BX.cell
  have f1 := cell_onw S2'.o (show c.w0.cell? ⟨b, off + 3, none⟩ = some (.int .i64 q3) from e3')
  have b7 : w2.cell? ⟨w1.heap.size, 7, none⟩ = some (.slice (c.m.nm p).ra (c.m.nm p).nr (c.m.nm p).rc) := by rw [bx]; rfl
  have b8 : w2.cell? ⟨w1.heap.size, 8, none⟩ = some (.slice (some ⟨b, off, none⟩) 4 (c.m.nm p).kc) := by rw [bx]; rfl
  clear bx
  go_wp2_with fail
  go_region_held3 (fun w' => w'.cell? ⟨w1.heap.size, 7, none⟩ = some (.slice (c.m.nm p).ra (c.m.nm p).nr (c.m.nm p).rc) ∧ w'.cell? ⟨w1.heap.size, 8, none⟩ = some (.slice (some ⟨b, off, none⟩) 4 (c.m.nm p).kc) ∧ w'.cell? ⟨b, off + 3, none⟩ = some (.int .i64 q3)) (go_keep)
    (first | (go_at_call 62; refine (visitLoop_any c ok q3 _ _ _ (c.m.nm p).rf (c.L p) (c.H p) _ d2 hnr hIr (IH.out q3 lt3) L0 L1 EL3.out EH3.out HB.out (Ctx.St.onw S2' (Below.drew (Onw.refl _)))).mono ?_; rintro e w3 ⟨d3, rfl, S3, K3, G3, h3⟩; have K3' := (Ctx.Keep.onw (c := c) (show Onw w2 w2.drew from Below.drew (Onw.refl _))).trans K3; have BX3 := K3'.blk n1 n2 n3 BX; have r7 := (BX3.cell 7).trans ((BX.cell 7).symm.trans b7); have r8 := (BX3.cell 8).trans ((BX.cell 8).symm.trans b8); have f3 := cell_onw S3.o (show c.w0.cell? ⟨b, off + 3, none⟩ = some (.int .i64 q3) from e3')))
  go_wp2_with fail
  go_end0
  obtain ⟨G9, h9⟩ := Ctx.Grow.up (p := p) (G2.trans G3) (fun j hj => by
    have hj' : j < 4 := by have := HNK.out; omega
    have cs : j = 0 ∨ j = 1 ∨ j = 2 ∨ j = 3 := by omega
    rcases cs with rfl | rfl | rfl | rfl
    · rw [HQ0.out]; exact (G3.mono _ (by have := h2 0 (by omega); rw [HQ0.out] at this; exact this))
    · rw [HQ1.out]; exact (G3.mono _ (by have := h2 1 (by omega); rw [HQ1.out] at this; exact this))
    · rw [HQ2.out]; exact (G3.mono _ (by have := h2 2 (by omega); rw [HQ2.out] at this; exact this))
    · rw [HQ3.out]; exact h3)
  exact ⟨d3, rfl, S3, ((K1.trans (Ctx.Keep.onw (Onw.alloc _ _))).trans K2).trans K3', G9, h9⟩

set_option maxRecDepth 100000 in
set_option maxHeartbeats 4000000 in
theorem visit_var (c : Ctx) (ok : c.Ok) (p : Nat) (hp : p < c.m.nn) (hk : (c.m.nm p).kind = 26) (ih : ∀ q, q < p → c.VisitOk q) : c.VisitOk p := by
  intro w dn S
  have nk2 := ok.nk p hp
  have x := S.W.blk.cell
  obtain ⟨sc, sB, sA⟩ := S.S
  have y0 : w.cell? ⟨c.sb, p * 2, none⟩ = some (.bool (dn p && c.inL p)) := by rw [sB.cell]; exact (sA.2 p hp).1
  have fs := sB.free
  have a0 := as_block_no (d := (c.m.nm p).toND) nk2 (by omega)
  have a1 := as_while_no (d := (c.m.nm p).toND) nk2 (by omega)
  have a2 := as_for_no (d := (c.m.nm p).toND) nk2 (by omega)
  have a3 := as_each_no (d := (c.m.nm p).toND) nk2 (by omega)
  have a4 := as_try_no (d := (c.m.nm p).toND) nk2 (by omega)
  have ay := as_var_yes (d := (c.m.nm p).toND) nk2 (by omega)
  have HK : Hid _ := hk
  have IH : Hid _ := ih
  clear hk ih
  have x4 : w.cell? ⟨c.wb, 4, none⟩ = some (.int .i64 (c.L p)) := by rw [x]; rfl
  have x5 : w.cell? ⟨c.wb, 5, none⟩ = some (.slice (some ⟨c.sb, 0, none⟩) c.m.nn c.m.nn) := by rw [x]; rfl
  have ne2 := ok.ne2
  have ne2' := Ne.symm ok.ne2
  clear x
  go_enter Tryz.func42, Tryz.ntmps42
  go_wp2_with fail
  go_region_held3 (fun w' => w'.cell? ⟨c.wb, 4, none⟩ = some (.int .i64 (c.L p)) ∧ w'.cell? ⟨c.wb, 5, none⟩ = some (.slice (some ⟨c.sb, 0, none⟩) c.m.nn c.m.nn)) (go_keep) (fail)
  obtain ⟨S0, K0⟩ := Ctx.St.mark ok S p (c.inL p)
  have O0 : Onw (w.setCell ⟨c.sb, p * 2, none⟩ (.bool (c.inL p))) ((w.setCell ⟨c.sb, p * 2, none⟩ (.bool (c.inL p))).drew) := Below.drew (Onw.refl _)
  have S1 := S0.onw O0
  have K1 := K0.trans (Ctx.Keep.onw O0)
  clear O0 S0 K0
  have e0 : (decide (0 < c.L p)) = c.inL p := rfl
  rw [e0]
  generalize (w.setCell ⟨c.sb, p * 2, none⟩ (.bool (c.inL p))).drew = w1 at *
  clear x4 x5 y0 fs S sB sA
  obtain ⟨v, g1, kq, hv, hI2, _⟩ := ok.hF p hp
  subst hv
  have g2 := cell_onw S1.o g1
  have x := S1.W.blk.cell
  clear g1
  obtain ⟨hnr1, hnk0⟩ := ok.r1 p hp (by have := HK.out; omega)
  obtain ⟨rb, ro, hra, hc⟩ := (ok.hma.2.2.2 p hp).1 (by omega)
  have r0 := hc 0 (by omega)
  simp only [Nat.add_zero] at r0
  have r1 := cell_onw S1.o r0
  have zr := cell_lt r1
  rw [hra, hnr1] at g2
  clear hc hra hnr1
  have HNK : Hid _ := hnk0
  clear hnk0
  have z1 := S1.W.blk.lt
  obtain ⟨sc1, sB1, sA1⟩ := S1.S
  have z3 := sB1.lt
  have y1 : w1.cell? ⟨c.sb, p * 2 + 1, none⟩ = some (.bool (dn p && c.fnd p)) := by rw [sB1.cell]; exact (sA1.2 p hp).2
  have fs := sB1.free
  obtain ⟨cur1, hB1, hA1⟩ := S1.H
  have x5 : w1.cell? ⟨c.wb, 5, none⟩ = some (.slice (some ⟨c.sb, 0, none⟩) c.m.nn c.m.nn) := by rw [x]; rfl
  have nz1 : c.wb ≠ w1.heap.size := by omega
  have nz3 : c.sb ≠ w1.heap.size := by omega
  have nz4 : w1.heap.size ≠ c.sb := by omega
  have nr3 : rb ≠ c.sb := by have := cell_lt r0; have := ok.zsb; omega
  have nr4 : c.sb ≠ rb := Ne.symm nr3
  clear r0
  go_wp2_with fail
  have O1 : Onw w1 (w1.alloc (Obj.cells #[.int .i64 p, .int .i64 (c.m.nm p).kind, .int .i64 (c.m.nm p).line, .int .i64 (c.m.nm p).op, .int .i64 (c.m.nm p).num, .float .f64 (c.m.nm p).flt, .string (c.m.nm p).str, .slice (some ⟨rb, ro, none⟩) 1 (c.m.nm p).rc, .slice (c.m.nm p).ka (c.m.nm p).nk (c.m.nm p).kc, .slice kq (knN (c.m.nm p).toND) (knN (c.m.nm p).toND)] 102)) := Onw.alloc _ _
  have bx := (Blk.new w1 102 #[.int .i64 p, .int .i64 (c.m.nm p).kind, .int .i64 (c.m.nm p).line, .int .i64 (c.m.nm p).op, .int .i64 (c.m.nm p).num, .float .f64 (c.m.nm p).flt, .string (c.m.nm p).str, .slice (some ⟨rb, ro, none⟩) 1 (c.m.nm p).rc, .slice (c.m.nm p).ka (c.m.nm p).nk (c.m.nm p).kc, .slice kq (knN (c.m.nm p).toND) (knN (c.m.nm p).toND)]).cell
  have S2 := S1.onw O1
  have K2 := K1.trans (Ctx.Keep.onw (c := c) O1)
  have x5' := cell_onw O1 x5
  have r1' := cell_onw O1 r1
  have y1' := cell_onw O1 y1
  have fs' := (sB1.onw O1).free
  have hB2 := hB1.onw O1
  clear x5 r1 y1 fs hB1 sB1 x g2
  generalize w1.alloc (Obj.cells #[.int .i64 p, .int .i64 (c.m.nm p).kind, .int .i64 (c.m.nm p).line, .int .i64 (c.m.nm p).op, .int .i64 (c.m.nm p).num, .float .f64 (c.m.nm p).flt, .string (c.m.nm p).str, .slice (some ⟨rb, ro, none⟩) 1 (c.m.nm p).rc, .slice (c.m.nm p).ka (c.m.nm p).nk (c.m.nm p).kc, .slice kq (knN (c.m.nm p).toND) (knN (c.m.nm p).toND)] 102) = w2 at *
  have b0 : w2.cell? ⟨w1.heap.size, 0, none⟩ = some (.int .i64 p) := by rw [bx]; rfl
  have b7 : w2.cell? ⟨w1.heap.size, 7, none⟩ = some (.slice (some ⟨rb, ro, none⟩) 1 (c.m.nm p).rc) := by rw [bx]; rfl
  clear bx O1
  go_region_held3 (fun w' => w'.cell? ⟨c.wb, 5, none⟩ = some (.slice (some ⟨c.sb, 0, none⟩) c.m.nn c.m.nn) ∧ w'.cell? ⟨w1.heap.size, 0, none⟩ = some (.int .i64 p) ∧ w'.cell? ⟨w1.heap.size, 7, none⟩ = some (.slice (some ⟨rb, ro, none⟩) 1 (c.m.nm p).rc) ∧ w'.cell? ⟨rb, ro, none⟩ = some (.int .i64 ((c.m.nm p).rf 0))) (go_keep)
    (first | (go_at_call 65; refine (inScope_any c.wb _ _ _ c.hb c.m.nv _ c.sb c.m.nn cur1 (c.H p) _ _ ⟨S2.W.blk.onw (Below.drew (Onw.refl _))⟩ (hB2.onw (Below.drew (Onw.refl _))) hA1).mono ?_; rintro e w3 ⟨rfl, rfl⟩))
  have ev : scopeB c.m.nv (c.H p) ((c.m.nm p).rf 0) = c.fnd p := by unfold Ctx.fnd; rw [if_pos HK.out]
  rw [ev]
  obtain ⟨S3, K3⟩ := Ctx.St.mark1 ok S2 p (c.fnd p)
  go_wp2_with fail
  go_end0
  refine ⟨addD dn p, rfl, Ctx.St.congr (S3.onw (Below.drew (Onw.refl _))) (fun _ _ => rfl) (fun k _ => ?_) (fun k _ => ?_), (K2.trans K3).trans (Ctx.Keep.onw (Below.drew (Onw.refl _))), ⟨fun n hn => addD_mono hn, fun n hl hn => ?_⟩, addD_self _ _⟩
  · by_cases e : k = p
    · subst e; simp [addD]
    · simp [addD, e]
  · by_cases e : k = p
    · subst e; simp [addD]
    · simp [addD, e]
  · rcases addD_cases hn with h | h
    · exact Or.inl h
    · subst h; exact Or.inr fun j hj => by have := HNK.out; omega
end Go.Proofs.YtnokgdgikdgaeaaGreat
