import Derived.Test.YtnokgdgikdgaeaaGreatP09
namespace Go.Proofs.YtnokgdgikdgaeaaGreat
open Go.RowKit
attribute [local go_sem] run_store_float

set_option maxRecDepth 100000 in
set_option maxHeartbeats 4000000 in
theorem visit_fn (c : Ctx) (ok : c.Ok) (p : Nat) (hp : p < c.m.nn) (hk : (c.m.nm p).kind = 36) (ih : ∀ q, q < p → c.VisitOk q) : c.VisitOk p := by
  intro w dn S
  have nk2 := ok.nk p hp
  have x := S.W.blk.cell
  obtain ⟨sc, sB, sA⟩ := S.S
  have y0 : w.cell? ⟨c.sb, p * 2, none⟩ = some (.bool (dn p && c.inL p)) := by rw [sB.cell]; exact (sA.2 p hp).1
  have fs := sB.free
  have a0 := as_block_no (d := (c.m.nm p).toND) nk2 (by omega)
  have a1 := as_while_no (d := (c.m.nm p).toND) nk2 (by omega)
  have a2 := as_for_no (d := (c.m.nm p).toND) nk2 (by omega)
  have a3 := as_each_no (d := (c.m.nm p).toND) nk2 (by omega)
  have a4 := as_try_no (d := (c.m.nm p).toND) nk2 (by omega)
  have a5 := as_var_no (d := (c.m.nm p).toND) nk2 (by omega)
  have ay := as_fn_yes (d := (c.m.nm p).toND) nk2 (by omega)
  have HK : Hid _ := hk
  have IH : Hid _ := ih
  clear hk ih
  have x4 : w.cell? ⟨c.wb, 4, none⟩ = some (.int .i64 (c.L p)) := by rw [x]; rfl
  have x5 : w.cell? ⟨c.wb, 5, none⟩ = some (.slice (some ⟨c.sb, 0, none⟩) c.m.nn c.m.nn) := by rw [x]; rfl
  have ne2 := ok.ne2
  have ne2' := Ne.symm ok.ne2
  clear x
  go_enter Tryz.func42, Tryz.ntmps42
  go_wp2_with fail
  go_region_held3 (fun w' => w'.cell? ⟨c.wb, 4, none⟩ = some (.int .i64 (c.L p)) ∧ w'.cell? ⟨c.wb, 5, none⟩ = some (.slice (some ⟨c.sb, 0, none⟩) c.m.nn c.m.nn)) (go_keep) (fail)
  obtain ⟨S0, K0⟩ := Ctx.St.mark ok S p (c.inL p)
  have O0 : Onw (w.setCell ⟨c.sb, p * 2, none⟩ (.bool (c.inL p))) ((w.setCell ⟨c.sb, p * 2, none⟩ (.bool (c.inL p))).drew) := Below.drew (Onw.refl _)
  have S1 := S0.onw O0
  have K1 := K0.trans (Ctx.Keep.onw O0)
  clear O0 S0 K0
  have e0 : (decide (0 < c.L p)) = c.inL p := rfl
  rw [e0]
  generalize (w.setCell ⟨c.sb, p * 2, none⟩ (.bool (c.inL p))).drew = w1 at *
  clear x4 x5 y0 fs S sB sA
  obtain ⟨v, g1, kq, hv, hI2, _⟩ := ok.hF p hp
  subst hv
  have g2 := cell_onw S1.o g1
  have x := S1.W.blk.cell
  clear g1
  obtain ⟨hnr1, hnk0⟩ := ok.r1 p hp (by have := HK.out; omega)
  obtain ⟨rb, ro, hra, hc⟩ := (ok.hma.2.2.2 p hp).1 (by omega)
  have r0 := hc 0 (by omega)
  simp only [Nat.add_zero] at r0
  have r1 := cell_onw S1.o r0
  have zr := cell_lt r1
  rw [hra, hnr1] at g2
  clear hc hra hnr1
  have HNK : Hid _ := hnk0
  clear hnk0
  have z1 := S1.W.blk.lt
  obtain ⟨sc1, sB1, sA1⟩ := S1.S
  have z3 := sB1.lt
  have y1 : w1.cell? ⟨c.sb, p * 2 + 1, none⟩ = some (.bool (dn p && c.fnd p)) := by rw [sB1.cell]; exact (sA1.2 p hp).2
  have fs := sB1.free
  obtain ⟨cur1, hB1, hA1⟩ := S1.H
  have x5 : w1.cell? ⟨c.wb, 5, none⟩ = some (.slice (some ⟨c.sb, 0, none⟩) c.m.nn c.m.nn) := by rw [x]; rfl
  have nz1 : c.wb ≠ w1.heap.size := by omega
  have nz3 : c.sb ≠ w1.heap.size := by omega
  have nz4 : w1.heap.size ≠ c.sb := by omega
  have nr3 : rb ≠ c.sb := by have := cell_lt r0; have := ok.zsb; omega
  have nr4 : c.sb ≠ rb := Ne.symm nr3
  clear r0
  go_wp2_with fail
  have O1 : Onw w1 (w1.alloc (Obj.cells #[.int .i64 p, .int .i64 (c.m.nm p).kind, .int .i64 (c.m.nm p).line, .int .i64 (c.m.nm p).op, .int .i64 (c.m.nm p).num, .float .f64 (c.m.nm p).flt, .string (c.m.nm p).str, .slice (some ⟨rb, ro, none⟩) 1 (c.m.nm p).rc, .slice (c.m.nm p).ka (c.m.nm p).nk (c.m.nm p).kc, .slice kq (knN (c.m.nm p).toND) (knN (c.m.nm p).toND)] 92)) := Onw.alloc _ _
  have bx := (Blk.new w1 92 #[.int .i64 p, .int .i64 (c.m.nm p).kind, .int .i64 (c.m.nm p).line, .int .i64 (c.m.nm p).op, .int .i64 (c.m.nm p).num, .float .f64 (c.m.nm p).flt, .string (c.m.nm p).str, .slice (some ⟨rb, ro, none⟩) 1 (c.m.nm p).rc, .slice (c.m.nm p).ka (c.m.nm p).nk (c.m.nm p).kc, .slice kq (knN (c.m.nm p).toND) (knN (c.m.nm p).toND)]).cell
  have S2 := S1.onw O1
  have K2 := K1.trans (Ctx.Keep.onw (c := c) O1)
  have x5' := cell_onw O1 x5
  have r1' := cell_onw O1 r1
  have y1' := cell_onw O1 y1
  have fs' := (sB1.onw O1).free
  have hB2 := hB1.onw O1
  have sB2 := sB1.onw O1
  clear x5 r1 y1 fs hB1 sB1 x g2
  generalize w1.alloc (Obj.cells #[.int .i64 p, .int .i64 (c.m.nm p).kind, .int .i64 (c.m.nm p).line, .int .i64 (c.m.nm p).op, .int .i64 (c.m.nm p).num, .float .f64 (c.m.nm p).flt, .string (c.m.nm p).str, .slice (some ⟨rb, ro, none⟩) 1 (c.m.nm p).rc, .slice (c.m.nm p).ka (c.m.nm p).nk (c.m.nm p).kc, .slice kq (knN (c.m.nm p).toND) (knN (c.m.nm p).toND)] 92) = w2 at *
  have b0 : w2.cell? ⟨w1.heap.size, 0, none⟩ = some (.int .i64 p) := by rw [bx]; rfl
  have b7 : w2.cell? ⟨w1.heap.size, 7, none⟩ = some (.slice (some ⟨rb, ro, none⟩) 1 (c.m.nm p).rc) := by rw [bx]; rfl
  clear bx O1
  go_region_held3 (fun w' => w'.cell? ⟨c.wb, 5, none⟩ = some (.slice (some ⟨c.sb, 0, none⟩) c.m.nn c.m.nn) ∧ w'.cell? ⟨w1.heap.size, 0, none⟩ = some (.int .i64 p) ∧ w'.cell? ⟨w1.heap.size, 7, none⟩ = some (.slice (some ⟨rb, ro, none⟩) 1 (c.m.nm p).rc) ∧ w'.cell? ⟨rb, ro, none⟩ = some (.int .i64 ((c.m.nm p).rf 0))) (go_keep)
    (first | (go_at_call 66; refine (findsUps_any c.u c.wb _ _ c.hb c.m.nv _ c.sb c.m.nn cur1 (c.H p) _ _ ok.hn ok.hu (UM.At.onw (S2.o.trans (Below.drew (Onw.refl _))) ok.hua) ⟨S2.W.blk.onw (Below.drew (Onw.refl _))⟩ (hB2.onw (Below.drew (Onw.refl _))) hA1).mono ?_; rintro e w3 ⟨rfl, O3⟩; have O4 : Onw w2 w3 := Onw.trans (Below.drew (Onw.refl _)) O3; have x5'' := cell_onw O4 x5'; have r1'' := cell_onw O4 r1'; have y1'' := cell_onw O4 y1'; have b0'' := cell_onw O4 b0; have b7'' := cell_onw O4 b7; have fs'' := (sB2.onw O4).free))
  have ev : findsB c.u.toUD c.m.nv (c.H p) c.m.nu ((c.m.nm p).rf 0) = c.fnd p := by unfold Ctx.fnd; rw [if_neg (by have := HK.out; omega), if_pos HK.out]
  rw [ev]
  obtain ⟨S3, K3⟩ := Ctx.St.mark1 ok (S2.onw O4) p (c.fnd p)
  go_wp2_with fail
  go_end0
  refine ⟨addD dn p, rfl, Ctx.St.congr (S3) (fun _ _ => rfl) (fun k _ => ?_) (fun k _ => ?_), (K2.trans (Ctx.Keep.onw O4)).trans K3, ⟨fun n hn => addD_mono hn, fun n hl hn => ?_⟩, addD_self _ _⟩
  · by_cases e : k = p
    · subst e; simp [addD]
    · simp [addD, e]
  · by_cases e : k = p
    · subst e; simp [addD]
    · simp [addD, e]
  · rcases addD_cases hn with h | h
    · exact Or.inl h
    · subst h; exact Or.inr fun j hj => by have := HNK.out; omega

set_option maxRecDepth 100000 in
set_option maxHeartbeats 4000000 in
theorem visit_else (c : Ctx) (ok : c.Ok) (p : Nat) (hp : p < c.m.nn) (hk : (c.m.nm p).kind ≠ 1 ∧ (c.m.nm p).kind ≠ 6 ∧ (c.m.nm p).kind ≠ 7 ∧ (c.m.nm p).kind ≠ 8 ∧ (c.m.nm p).kind ≠ 12 ∧ (c.m.nm p).kind ≠ 26 ∧ (c.m.nm p).kind ≠ 36) (ih : ∀ q, q < p → c.VisitOk q) : c.VisitOk p := by
  intro w dn S
  have nk2 := ok.nk p hp
  have x := S.W.blk.cell
  obtain ⟨sc, sB, sA⟩ := S.S
  have y0 : w.cell? ⟨c.sb, p * 2, none⟩ = some (.bool (dn p && c.inL p)) := by rw [sB.cell]; exact (sA.2 p hp).1
  have fs := sB.free
  have a0 := as_block_no (d := (c.m.nm p).toND) nk2 (by have := hk; omega)
  have a1 := as_while_no (d := (c.m.nm p).toND) nk2 (by have := hk; omega)
  have a2 := as_for_no (d := (c.m.nm p).toND) nk2 (by have := hk; omega)
  have a3 := as_each_no (d := (c.m.nm p).toND) nk2 (by have := hk; omega)
  have a4 := as_try_no (d := (c.m.nm p).toND) nk2 (by have := hk; omega)
  have a5 := as_var_no (d := (c.m.nm p).toND) nk2 (by have := hk; omega)
  have a6 := as_fn_no (d := (c.m.nm p).toND) nk2 (by have := hk; omega)
  have HK : Hid _ := hk
  have IH : Hid _ := ih
  have fz : c.fnd p = false := by unfold Ctx.fnd; rw [if_neg hk.2.2.2.2.2.1, if_neg hk.2.2.2.2.2.2]
  clear hk ih
  have x4 : w.cell? ⟨c.wb, 4, none⟩ = some (.int .i64 (c.L p)) := by rw [x]; rfl
  have x5 : w.cell? ⟨c.wb, 5, none⟩ = some (.slice (some ⟨c.sb, 0, none⟩) c.m.nn c.m.nn) := by rw [x]; rfl
  have ne2 := ok.ne2
  have ne2' := Ne.symm ok.ne2
  clear x
  go_enter Tryz.func42, Tryz.ntmps42
  go_wp2_with fail
  go_region_held3 (fun w' => w'.cell? ⟨c.wb, 4, none⟩ = some (.int .i64 (c.L p)) ∧ w'.cell? ⟨c.wb, 5, none⟩ = some (.slice (some ⟨c.sb, 0, none⟩) c.m.nn c.m.nn)) (go_keep) (fail)
  obtain ⟨S1, K1⟩ := Ctx.St.marked ok p fz S
  have e0 : (decide (0 < c.L p)) = c.inL p := rfl
  rw [e0]
  generalize (w.setCell ⟨c.sb, p * 2, none⟩ (.bool (c.inL p))).drew = w1 at *
  clear x4 x5 y0 fs S sB sA
  obtain ⟨v, g1, kq, hv, hI2, _⟩ := ok.hF p hp
  subst hv
  have g2 := cell_onw S1.o g1
  have x := S1.W.blk.cell
  clear g1
  have mh := meth_head (c.m.nm p).toND
  have mn := field_node
  have mk := field_kids
  have hI := (ok.hma.2.2.2 p hp).2
  have hkn := (ok.hsm.2.2.2 p hp).2
  have HV : Hid (∀ j, j < (c.m.nm p).nk → ∃ q : Nat, (c.m.nm p).kd j = q ∧ c.VisitOk q ∧ c.L q = c.L p ∧ ∀ v, v < c.m.nv → c.H q v = c.H p v) := fun j hj => by
    obtain ⟨b0, b1⟩ := ok.kids p hp j hj
    obtain ⟨q, hq⟩ := Int.eq_ofNat_of_zero_le b0
    have hk := HK.out
    refine ⟨q, hq, IH.out q (by omega), ?_, fun v hv => ?_⟩
    · have := ok.eL p hp j hj
      rw [hq, if_neg (by simp [loopK]; omega)] at this
      simpa using this
    · have := ok.eH p hp j hj v hv
      rw [hq, if_neg hk.1, if_neg (by simp [headK]; omega)] at this
      simpa using this
  go_wp2_with fail
  refine (head_any _ _ _ _ _ _).mono ?_
  rintro e w2 ⟨rfl, O2⟩
  go_wp2_with fail
  refine (visitAll_any c _ _ _ (c.m.nm p).kd (c.L p) (c.H p) _ (addD dn p) hkn hI HV.out (Ctx.St.onw S1 O2)).mono ?_
  rintro e w3 ⟨d3, rfl, S3, K3, G3, h3⟩
  go_wp2_with fail
  go_end0
  obtain ⟨G9, h9⟩ := G3.up h3
  exact ⟨d3, rfl, S3, (K1.trans (Ctx.Keep.onw O2)).trans K3, G9, h9⟩
end Go.Proofs.YtnokgdgikdgaeaaGreat

namespace Go.Proofs.YtnokgdgikdgaeaaGreat
open Go.RowKit

theorem visit_all (c : Ctx) (ok : c.Ok) : ∀ p, p < c.m.nn → c.VisitOk p := by
  intro p
  induction p using Nat.strongRecOn with
  | _ p ih =>
    intro hp
    have ih' : ∀ q, q < p → c.VisitOk q := fun q hq => ih q hq (by omega)
    by_cases k1 : (c.m.nm p).kind = 1
    · exact visit_block c ok p hp k1 ih'
    by_cases k6 : (c.m.nm p).kind = 6
    · exact visit_while c ok p hp k6 ih'
    by_cases k7 : (c.m.nm p).kind = 7
    · exact visit_for c ok p hp k7 ih'
    by_cases k8 : (c.m.nm p).kind = 8
    · exact visit_each c ok p hp k8 ih'
    by_cases k12 : (c.m.nm p).kind = 12
    · exact visit_try c ok p hp k12 ih'
    by_cases k26 : (c.m.nm p).kind = 26
    · exact visit_var c ok p hp k26 ih'
    by_cases k36 : (c.m.nm p).kind = 36
    · exact visit_fn c ok p hp k36 ih'
    exact visit_else c ok p hp ⟨k1, k6, k7, k8, k12, k26, k36⟩ ih'
end Go.Proofs.YtnokgdgikdgaeaaGreat

namespace Go.Proofs.YtnokgdgikdgaeaaGreat
open Go.RowKit
attribute [local go_sem] run_store_float

/-- What a tree gives to a walk through it, as plain data. -/
structure Facts (d : FD) (H : Nat → Nat → Int) (L : Nat → Int) : Prop where
  pos : 0 < d.nn
  par0 : 0 ≤ d.params
  par1 : d.params ≤ d.nv
  nk : ∀ n, n < d.nn → (d.nd n).nk ≤ 200
  kids : ∀ n, n < d.nn → ∀ j, j < (d.nd n).nk → 0 ≤ (d.nd n).kd j ∧ (d.nd n).kd j < n
  k2 : ∀ n, n < d.nn → (d.nd n).kind = 6 ∨ (d.nd n).kind = 8 ∨ (d.nd n).kind = 12 → (d.nd n).nk = 2
  k4 : ∀ n, n < d.nn → (d.nd n).kind = 7 → (d.nd n).nk = 4
  r1 : ∀ n, n < d.nn → (d.nd n).kind = 26 ∨ (d.nd n).kind = 36 → (d.nd n).nr = 1 ∧ (d.nd n).nk = 0
  hL : ∀ n, n < d.nn → 0 ≤ L n ∧ L n ≤ 1048576
  hH : ∀ n, n < d.nn → ∀ v, 0 ≤ H n v ∧ H n v ≤ 1000000000000
  eL : ∀ n, n < d.nn → ∀ j, j < (d.nd n).nk → L ((d.nd n).kd j).toNat = L n + (if loopK (d.nd n).kind = true ∧ j + 1 = (d.nd n).nk then 1 else 0)
  eH : ∀ n, n < d.nn → ∀ j, j < (d.nd n).nk → ∀ v, v < d.nv → H ((d.nd n).kd j).toNat v = H n v + (if (d.nd n).kind = 1 then letS d.nv d.nd n j v else if headK (d.nd n).kind = true ∧ j + 1 = (d.nd n).nk then cntV d.nv (d.nd n).rf (d.nd n).nr v else 0)
  top : L (d.nn - 1) = 0
  topH : ∀ v, v < d.nv → H (d.nn - 1) v = if (v : Int) < d.params then 1 else 0
  par : ∀ n, n + 1 < d.nn → ∃ m, m < d.nn ∧ ∃ j, j < (d.nd m).nk ∧ (d.nd m).kd j = n

def inLB (L : Nat → Int) (n : Nat) : Bool := decide (0 < L n)
def fndB (u : UD) (d : FD) (H : Nat → Nat → Int) (n : Nat) : Bool := if (d.nd n).kind = 26 then scopeB d.nv (H n) ((d.nd n).rf 0) else if (d.nd n).kind = 36 then findsB u d.nv (H n) d.nu ((d.nd n).rf 0) else false

/-- What has been seen is all. -/
theorem Ctx.all {c : Ctx} {L : Nat → Int} {H : Nat → Nat → Int} (F : Facts c.m.toFD H L) {dn : Nat → Bool} (G : c.Grow (fun _ => false) dn) (h : dn (c.m.nn - 1) = true) : ∀ n, n < c.m.nn → dn n = true := by
  have key : ∀ k n, n + k + 1 = c.m.nn → dn n = true := by
    intro k
    induction k using Nat.strongRecOn with
    | _ k ih =>
      intro n hn
      by_cases hk : k = 0
      · have : n = c.m.nn - 1 := by omega
        rw [this]; exact h
      · obtain ⟨m, hm, j, hj, e⟩ := F.par n (show n + 1 < c.m.nn by omega)
        have hm' : m < c.m.nn := hm
        have hlt := (F.kids m hm j hj).2
        have hd := ih (c.m.nn - m - 1) (by omega) m (by omega)
        rcases G.shut m hm' hd with h1 | h1
        · cases h1
        · have := h1 j hj
          have e' : (c.m.nm m).kd j = n := e
          rw [e'] at this; simpa using this
  intro n hn
  exact key (c.m.nn - n - 1) n (by omega)

def SiAt (w : World) (b n : Nat) (p q : Nat → Bool) : Prop := ∀ i, i < n → w.cell? ⟨b, i * 2, none⟩ = some (.bool (p i)) ∧ w.cell? ⟨b, i * 2 + 1, none⟩ = some (.bool (q i))
theorem SiAt.onw {w w' : World} (h : Onw w w') {b n p q} (s : SiAt w b n p q) : SiAt w' b n p q := fun i hi => ⟨cell_onw h (s i hi).1, cell_onw h (s i hi).2⟩
theorem SiAt.keptIn {w w' : World} {lo b n p q} (hk : Kept (fun x => x < w.heap.size ∧ lo ≤ x) w w') (hb : lo ≤ b) (s : SiAt w b n p q) : SiAt w' b n p q := fun i hi =>
  ⟨(hk.cell ⟨cell_lt (s i hi).1, hb⟩).trans (s i hi).1, (hk.cell ⟨cell_lt (s i hi).1, hb⟩).trans (s i hi).2⟩
def SightsAll (w : World) (ab nf : Nat) (sb : Nat → Nat) (fm : Nat → FM) (p q : Nat → Nat → Bool) : Prop := ∀ f, f < nf → w.cell? ⟨ab, f, none⟩ = some (.slice (some ⟨sb f, 0, none⟩) (fm f).nn (fm f).nn) ∧ SiAt w (sb f) (fm f).nn (p f) (q f)
theorem SightsAll.onw {w w' : World} (h : Onw w w') {ab nf sb fm p q} (s : SightsAll w ab nf sb fm p q) : SightsAll w' ab nf sb fm p q := fun f hf => ⟨cell_onw h (s f hf).1, (s f hf).2.onw h⟩

theorem info_sight : (Tryz.prog.info? 104).map (fun i => (i.zero, i.size, i.bytes)) = some (some (.agg #[.bool false, .bool false]), 2, 2) := by kernel_rfl
theorem info_sights : (Tryz.prog.info? 87).map (fun i => (i.zero, i.size, i.bytes)) = some (some (.slice none 0 0), 1, 24) := by kernel_rfl
theorem run_make_sights (n : Nat) (hn : n ≤ 1048576) (w : World) :
    (Instr.makeSlice 87 (.int .i64 n) (.int .i64 n)).run Tryz.prog w = .ok (.slice (some ⟨w.heap.size, 0, none⟩) n n) (w.alloc (.cells (madeCells #[.bool false, .bool false] (n * 2)) 104)) := by
  obtain ⟨i0, hi, hz0, hz1, hz2⟩ := info_parts info_sight
  have := run_make (P := Tryz.prog) w 87 104 i0 _ Tryz.underlying87 hi hz0 .i64 .i64 n n (by omega) (by omega) (by rw [hz2]; omega) (by omega)
  simpa [hz1, Value.cells] using this
theorem run_make_sightss (n : Nat) (hn : n ≤ 1048576) (w : World) :
    (Instr.makeSlice 41 (.int .i64 n) (.int .i64 n)).run Tryz.prog w = .ok (.slice (some ⟨w.heap.size, 0, none⟩) n n) (w.alloc (.cells (madeCells #[.slice none 0 0] n) 87)) := by
  obtain ⟨i0, hi, hz0, hz1, hz2⟩ := info_parts info_sights
  have := run_make (P := Tryz.prog) w 41 87 i0 _ Tryz.underlying41 hi hz0 .i64 .i64 n n (by omega) (by omega) (by rw [hz2]; omega) (by omega)
  simpa [hz1, Value.cells] using this
theorem made_sight (n : Nat) : SArr (madeCells #[.bool false, .bool false] (n * 2)) n (fun _ => false) (fun _ => false) := by
  refine ⟨size_madeCells _ _, fun k hk => ⟨?_, ?_⟩⟩
  · have h1 : k * 2 < n * 2 := by omega
    have h2 : k * 2 % 2 = 0 := by omega
    simp [madeCells, h1, h2]
  · have h1 : k * 2 + 1 < n * 2 := by omega
    have h2 : (k * 2 + 1) % 2 = 1 := by omega
    simp [madeCells, h1, h2]
end Go.Proofs.YtnokgdgikdgaeaaGreat

namespace Go.Proofs.YtnokgdgikdgaeaaGreat
open Go.RowKit
attribute [local go_sem] run_store_float

set_option maxRecDepth 100000 in
set_option maxHeartbeats 4000000 in
theorem sightsOf_any (u : UM) (ab : Nat) (fb : Nat → Nat) (H : Nat → Nat → Nat → Int) (L : Nat → Nat → Int) (w : World) (hn : u.nf ≤ 1048576) (hs : ∀ f, f < u.nf → (u.fm f).Small) (hkc : ∀ f, f < u.nf → ∀ n, n < (u.fm f).nn → ((u.fm f).nm n).nk ≤ ((u.fm f).nm n).kc) (hFa : ∀ f, f < u.nf → Facts (u.fm f).toFD (H f) (L f)) (ha : u.At w) (hF : FormsAll w ab u.nf fb u.fm) :
    Calls Tryz.prog 22 #[.slice u.fa u.nf u.fc, .slice (some ⟨ab, 0, none⟩) u.nf u.nf] w fun e w' => ∃ sa sb, e = .returned (.slice (some ⟨sa, 0, none⟩) u.nf u.nf) ∧ Onw w w' ∧ SightsAll w' sa u.nf sb u.fm (fun f => inLB (L f)) (fun f => fndB u.toUD (u.fm f).toFD (H f)) ∧ w.heap.size ≤ sa ∧ ∀ f, f < u.nf → w.heap.size ≤ sb f := by
  obtain ⟨nf, fm, ua, uc⟩ := u
  simp only at *
  have HS : Hid _ := hs
  have HA : Hid _ := ha
  have HKC : Hid _ := hkc
  have HFA : Hid _ := hFa
  have HF : Hid _ := hF
  clear hs ha hkc hFa hF
  have hmk := run_make_sightss nf hn
  go_enter Tryz.func22, Tryz.ntmps22
  go_wp2_with fail
  clear hmk
  go_loopw [15] (fun i wr => ∃ (k : Nat) (sb : Nat → Nat) (cur : Array Value), k ≤ nf ∧ i = .int .i64 k ∧ Onw w wr ∧ Blk wr w.heap.size 87 cur ∧ cur.size = nf ∧ ∀ f, f < k → cur[f]? = some (.slice (some ⟨sb f, 0, none⟩) (fm f).nn (fm f).nn) ∧ w.heap.size + 1 ≤ sb f ∧ SiAt wr (sb f) (fm f).nn (inLB (L f)) (fndB (UM.toUD ⟨nf, fm, ua, uc⟩) (fm f).toFD (H f))) (fun i _ => nf - (intOf i).toNat)
  case atStart => exact ⟨0, fun _ => 0, _, Nat.zero_le _, rfl, Onw.alloc _ _, Blk.new _ _ _, size_madeCells _ _, fun f hf => absurd hf (Nat.not_lt_zero _)⟩
  case round =>
    obtain ⟨k, sb, cur, hk, rfl, ob, B, hz, hG⟩ := hrel
    obtain ⟨w0, hw0⟩ : ∃ x, x = wr := ⟨_, rfl⟩
    subst hw0
    have HG : Hid _ := hG
    clear hG
    by_cases hlt : k < nf
    · have hA := FnsAt.onw ob HA.out
      obtain ⟨b, off, hua, hc⟩ := hA.1 (by omega)
      subst hua
      obtain ⟨c0, c1, c2, c3, c4, c5, c6⟩ := hc k hlt
      have zb := cell_lt c0
      have zB := B.lt
      clear hc hA
      have g0 := cell_onw ob (HF.out k hlt).1
      have zg := cell_lt g0
      have mk1 := run_make_ints (fm k).nv (HS.out k hlt).1
      have mk2 := run_make_sights (fm k).nn (HS.out k hlt).2.2.1
      go_wp2_with fail
      have O1 : Onw w0 (w0.alloc (Obj.cells #[.string (fm k).name, .int .i64 (fm k).line, .int .i64 (fm k).params, .bool (fm k).rest, .slice (fm k).va (fm k).nv (fm k).vc, .slice (fm k).ua (fm k).nu (fm k).uc, .slice (fm k).na (fm k).nn (fm k).nc] 61)) := Onw.alloc _ _
      have B1 := Blk.new w0 61 #[.string (fm k).name, .int .i64 (fm k).line, .int .i64 (fm k).params, .bool (fm k).rest, .slice (fm k).va (fm k).nv (fm k).vc, .slice (fm k).ua (fm k).nu (fm k).uc, .slice (fm k).na (fm k).nn (fm k).nc]
      have BA1 := B.onw O1
      have g1 := cell_onw O1 g0
      have z1 : (w0.alloc (Obj.cells #[.string (fm k).name, .int .i64 (fm k).line, .int .i64 (fm k).params, .bool (fm k).rest, .slice (fm k).va (fm k).nv (fm k).vc, .slice (fm k).ua (fm k).nu (fm k).uc, .slice (fm k).na (fm k).nn (fm k).nc] 61)).heap.size = w0.heap.size + 1 := by simp
      clear c0 c1 c2 c3 c4 c5 c6 g0
      generalize w0.alloc (Obj.cells #[.string (fm k).name, .int .i64 (fm k).line, .int .i64 (fm k).params, .bool (fm k).rest, .slice (fm k).va (fm k).nv (fm k).vc, .slice (fm k).ua (fm k).nu (fm k).uc, .slice (fm k).na (fm k).nn (fm k).nc] 61) = w1 at *
      have b5 : w1.cell? ⟨w0.heap.size, 5, none⟩ = some (.slice (fm k).ua (fm k).nu (fm k).uc) := by rw [B1.cell]; rfl
      go_region_held3 (fun w' => w'.cell? ⟨ab, k, none⟩ = some (.slice (some ⟨fb k, 0, none⟩) (fm k).nn (fm k).nn) ∧ w'.cell? ⟨w0.heap.size, 5, none⟩ = some (.slice (fm k).ua (fm k).nu (fm k).uc)) (go_keep) (fail)
      have O2 : Onw w1 ((w1.alloc (Obj.cells #[.slice (some ⟨b, off, none⟩) nf uc, .slice (some ⟨fb k, 0, none⟩) (fm k).nn (fm k).nn, .int .i64 (fm k).nu, .slice none 0 0, .int .i64 0, .slice none 0 0] 89)).drew) := Below.drew (Onw.alloc _ _)
      have BW2 : Blk ((w1.alloc (Obj.cells #[.slice (some ⟨b, off, none⟩) nf uc, .slice (some ⟨fb k, 0, none⟩) (fm k).nn (fm k).nn, .int .i64 (fm k).nu, .slice none 0 0, .int .i64 0, .slice none 0 0] 89)).drew) (w0.heap.size + 1) 89 #[.slice (some ⟨b, off, none⟩) nf uc, .slice (some ⟨fb k, 0, none⟩) (fm k).nn (fm k).nn, .int .i64 (fm k).nu, .slice none 0 0, .int .i64 0, .slice none 0 0] := by rw [← z1]; exact (Blk.new w1 89 #[.slice (some ⟨b, off, none⟩) nf uc, .slice (some ⟨fb k, 0, none⟩) (fm k).nn (fm k).nn, .int .i64 (fm k).nu, .slice none 0 0, .int .i64 0, .slice none 0 0]).onw (Below.drew (Onw.refl _))
      have z2 : ((w1.alloc (Obj.cells #[.slice (some ⟨b, off, none⟩) nf uc, .slice (some ⟨fb k, 0, none⟩) (fm k).nn (fm k).nn, .int .i64 (fm k).nu, .slice none 0 0, .int .i64 0, .slice none 0 0] 89)).drew).heap.size = w0.heap.size + 2 := by simp [World.drew, z1]
      have B2 := B1.onw O2
      have BA2 := BA1.onw O2
      have O02 := O1.trans O2
      clear g1 b5 B1 BA1 O2 O1
      try rw [z1]
      generalize (w1.alloc (Obj.cells #[.slice (some ⟨b, off, none⟩) nf uc, .slice (some ⟨fb k, 0, none⟩) (fm k).nn (fm k).nn, .int .i64 (fm k).nu, .slice none 0 0, .int .i64 0, .slice none 0 0] 89)).drew = w2 at *
      clear z1
      have xb := B2.cell
      have xw := BW2.cell
      have fw := BW2.free
      go_wp2_with fail
      have BW3 := (BW2.set 3 (.slice (some ⟨w0.heap.size + 2, 0, none⟩) (fm k).nv (fm k).nv)).set 5 (.slice (some ⟨w0.heap.size + 2 + 1, 0, none⟩) (fm k).nn (fm k).nn)
      simp only [List.setIfInBounds_toArray, List.set_cons_zero, List.set_cons_succ] at BW3
      have K3 : Kept (· ≠ w0.heap.size + 1) w2 ((w2.setCell ⟨w0.heap.size + 1, 3, none⟩ (.slice (some ⟨w0.heap.size + 2, 0, none⟩) (fm k).nv (fm k).nv)).setCell ⟨w0.heap.size + 1, 5, none⟩ (.slice (some ⟨w0.heap.size + 2 + 1, 0, none⟩) (fm k).nn (fm k).nn)) := Kept.set (Kept.set (Kept.refl _ _) (by simp) _) (by simp) _
      have zz : ((w2.setCell ⟨w0.heap.size + 1, 3, none⟩ (.slice (some ⟨w0.heap.size + 2, 0, none⟩) (fm k).nv (fm k).nv)).setCell ⟨w0.heap.size + 1, 5, none⟩ (.slice (some ⟨w0.heap.size + 2 + 1, 0, none⟩) (fm k).nn (fm k).nn)).heap.size = w0.heap.size + 2 := by rw [World.size_setCell, World.size_setCell]; exact z2
      have O2' : Onw w0 ((w2.setCell ⟨w0.heap.size + 1, 3, none⟩ (.slice (some ⟨w0.heap.size + 2, 0, none⟩) (fm k).nv (fm k).nv)).setCell ⟨w0.heap.size + 1, 5, none⟩ (.slice (some ⟨w0.heap.size + 2 + 1, 0, none⟩) (fm k).nn (fm k).nn)) := below_set (below_set O02 (by omega) _) (by omega) _
      have B2' := B2.kept K3 (show w0.heap.size ≠ w0.heap.size + 1 by omega)
      have BA2' := BA2.kept K3 (show w.heap.size ≠ w0.heap.size + 1 by omega)
      have N1 := Blk.new ((w2.setCell ⟨w0.heap.size + 1, 3, none⟩ (.slice (some ⟨w0.heap.size + 2, 0, none⟩) (fm k).nv (fm k).nv)).setCell ⟨w0.heap.size + 1, 5, none⟩ (.slice (some ⟨w0.heap.size + 2 + 1, 0, none⟩) (fm k).nn (fm k).nn)) 3 (madeCells #[.int .i64 0] (fm k).nv)
      rw [zz] at N1
      clear BW2 B2 BA2 O02 xb xw fw K3 mk1 mk2
      generalize ((w2.setCell ⟨w0.heap.size + 1, 3, none⟩ (.slice (some ⟨w0.heap.size + 2, 0, none⟩) (fm k).nv (fm k).nv)).setCell ⟨w0.heap.size + 1, 5, none⟩ (.slice (some ⟨w0.heap.size + 2 + 1, 0, none⟩) (fm k).nn (fm k).nn)) = w3 at *
      have O4 := (Onw.alloc w3 (Obj.cells (madeCells #[.int .i64 0] (fm k).nv) 3)).trans (Onw.alloc _ (Obj.cells (madeCells #[.bool false, .bool false] ((fm k).nn * 2)) 104))
      have N2 := Blk.new (w3.alloc (Obj.cells (madeCells #[.int .i64 0] (fm k).nv) 3)) 104 (madeCells #[.bool false, .bool false] ((fm k).nn * 2))
      rw [show (w3.alloc (Obj.cells (madeCells #[.int .i64 0] (fm k).nv) 3)).heap.size = w0.heap.size + 2 + 1 by simp [zz]] at N2
      have N1' := N1.onw (Onw.alloc _ (Obj.cells (madeCells #[.bool false, .bool false] ((fm k).nn * 2)) 104))
      have BW4 := BW3.onw O4
      have B4 := B2'.onw O4
      have BA4 := BA2'.onw O4
      have O5 := O2'.trans O4
      clear BW3 B2' BA2' N1 O4 O2'
      generalize (w3.alloc (Obj.cells (madeCells #[.int .i64 0] (fm k).nv) 3)).alloc (Obj.cells (madeCells #[.bool false, .bool false] ((fm k).nn * 2)) 104) = w4 at *
      have F := HFA.out k hlt
      have snv := (HS.out k hlt).1
      have snn := (HS.out k hlt).2.2.1
      have fp0 : 0 ≤ (fm k).params := F.par0
      have fp1 : (fm k).params ≤ (fm k).nv := F.par1
      obtain ⟨P, hP⟩ := Int.eq_ofNat_of_zero_le fp0
      have HP : Hid _ := hP
      have fp2 : P ≤ (fm k).nv := by omega
      rw [hP] at B4 ⊢
      clear hP fp0 fp1 F
      go_loopw [41] (fun i wr => ∃ (j : Nat) (hc : Array Value), j ≤ P ∧ i = .int .i64 j ∧ Onw w0 wr ∧ Blk wr (w0.heap.size + 1) 89 #[.slice (some ⟨b, off, none⟩) nf uc, .slice (some ⟨fb k, 0, none⟩) (fm k).nn (fm k).nn, .int .i64 (fm k).nu, .slice (some ⟨w0.heap.size + 2, 0, none⟩) (fm k).nv (fm k).nv, .int .i64 0, .slice (some ⟨w0.heap.size + 2 + 1, 0, none⟩) (fm k).nn (fm k).nn] ∧ Blk wr w0.heap.size 61 #[.string (fm k).name, .int .i64 (fm k).line, .int .i64 P, .bool (fm k).rest, .slice (fm k).va (fm k).nv (fm k).vc, .slice (fm k).ua (fm k).nu (fm k).uc, .slice (fm k).na (fm k).nn (fm k).nc] ∧ Blk wr w.heap.size 87 cur ∧ Blk wr (w0.heap.size + 2) 3 hc ∧ Arr hc (fm k).nv (fun x => if x < j then 1 else 0) ∧ Blk wr (w0.heap.size + 2 + 1) 104 (madeCells #[.bool false, .bool false] ((fm k).nn * 2))) (fun i _ => P - (intOf i).toNat)
      case atStart => exact ⟨0, _, Nat.zero_le _, rfl, O5, BW4, B4, BA4, N1', ⟨size_madeCells _ _, fun x hx => by simp [made_int (fm k).nv x hx]⟩, N2⟩
      case round =>
        clear O5 BW4 B4 BA4 N1' N2
        obtain ⟨j, hc, hj, rfl, O5, BW, BF, BA, BH, AH, BS⟩ := hrel
        by_cases hjt : j < P
        · have xw := BW.cell
          have xh : wr.cell? ⟨w0.heap.size + 2, j, none⟩ = some (.int .i64 0) := by rw [BH.cell, AH.2 j (by omega)]; simp
          have fh := BH.free
          have R : Hid (Arr (hc.setIfInBounds j (.int .i64 1)) (fm k).nv (fun x => if x < j + 1 then 1 else 0)) := by
            refine AH.set j 1 fun x hx => ?_
            by_cases e : x = j
            · subst e; simp
            · simp only [if_neg e]; by_cases e2 : x < j
              · rw [if_pos e2, if_pos (by omega)]
              · rw [if_neg e2, if_neg (by omega)]
          have KK : Hid (∀ y, Kept (· ≠ w0.heap.size + 2) wr (wr.setCell ⟨w0.heap.size + 2, j, none⟩ y)) := fun y => Kept.set (Kept.refl _ _) (by simp) _
          go_wp2_with fail
          go_roundw
          case rel => exact ⟨j + 1, _, by omega, by go_num, below_set O5 (by omega) _, BW.kept (KK.out _) (by omega), BF.kept (KK.out _) (by omega), BA.kept (KK.out _) (by omega), BH.set j _, R.out, BS.kept (KK.out _) (by omega)⟩
          case measure => simp [intOf]; omega
        · have : j = P := by omega
          subst this
          have xb := BF.cell
          have fn0 := (HFA.out k hlt).pos
          have fn1 : 0 < (fm k).nn := fn0
          clear fn0
          go_wp2_with fail
          clear xb
          have F := HFA.out k hlt
          have zo := ob.size
          have okc : Ctx.Ok ⟨⟨nf, fm, some ⟨b, off, none⟩, uc⟩, fm k, w, w0.heap.size + 1, w0.heap.size + 2, w0.heap.size + 2 + 1, fb k, H k, L k⟩ :=
            { hn := hn, hu := fun f hf => (HS.out f hf).2.1, hua := HA.out, hma := HA.out.2 k hlt, hsm := HS.out k hlt, hF := (HF.out k hlt).2, zwb := by show w.heap.size ≤ w0.heap.size + 1; omega, zhb := by show w.heap.size ≤ w0.heap.size + 2; omega, zsb := by show w.heap.size ≤ w0.heap.size + 2 + 1; omega, ne1 := by show w0.heap.size + 1 ≠ w0.heap.size + 2; omega, ne2 := by show w0.heap.size + 1 ≠ w0.heap.size + 2 + 1; omega, ne3 := by show w0.heap.size + 2 ≠ w0.heap.size + 2 + 1; omega, nk := F.nk, kc := HKC.out k hlt, kids := F.kids, k2 := F.k2, k4 := F.k4, r1 := F.r1, hL := F.hL, hH := F.hH, eL := F.eL, eH := F.eH }
          have hS : Ctx.Std ⟨⟨nf, fm, some ⟨b, off, none⟩, uc⟩, fm k, w, w0.heap.size + 1, w0.heap.size + 2, w0.heap.size + 2 + 1, fb k, H k, L k⟩ wr (L k ((fm k).nn - 1)) (H k ((fm k).nn - 1)) (fun _ => false) := by
            refine ⟨ob.trans O5, ⟨?_⟩, ⟨hc, BH, AH.congr fun v hv => ?_⟩, ⟨_, BS, (made_sight _).congr (fun _ _ => rfl) (fun _ _ => rfl)⟩⟩
            · have ft : L k ((fm k).nn - 1) = 0 := F.top
              rw [ft]; exact BW
            · have ft := F.topH v hv
              have e0 : (fm k).toFD.params = (j : Int) := HP.out
              have e2 : H k ((fm k).nn - 1) v = if (v : Int) < (j : Int) then 1 else 0 := by rw [← e0]; exact ft
              rw [e2]
              by_cases e : v < j
              · rw [if_pos e, if_pos (by omega)]
              · rw [if_neg e, if_neg (by omega)]
          have e1 : ((fm k).nn : Int) - 1 = (((fm k).nn - 1 : Nat) : Int) := by omega
          rw [e1]
          refine (visit_all _ okc ((fm k).nn - 1) (by show (fm k).nn - 1 < (fm k).nn; omega) wr _ hS).mono ?_
          rintro e w5 ⟨dn, rfl, S5, K5, G5, h5⟩
          have BA5 := K5.blk (show w.heap.size ≠ w0.heap.size + 1 by omega) (show w.heap.size ≠ w0.heap.size + 2 by omega) (show w.heap.size ≠ w0.heap.size + 2 + 1 by omega) BA
          have xw5 := S5.W.blk.cell
          have fs := BA5.free
          obtain ⟨y0, gy⟩ := BA5.some (j := k) (by rw [hz]; exact hlt)
          have HALL : Hid _ := Ctx.all (c := ⟨⟨nf, fm, some ⟨b, off, none⟩, uc⟩, fm k, w, w0.heap.size + 1, w0.heap.size + 2, w0.heap.size + 2 + 1, fb k, H k, L k⟩) F G5 h5
          simp only at xw5
          go_wp2_with fail
          go_roundw
          case rel =>
            refine ⟨k + 1, fun f => if f = k then w0.heap.size + 2 + 1 else sb f, _, by omega, by go_num, below_set S5.o (Nat.le_refl _) _, BA5.set k _, by simp [hz], fun f hf => ?_⟩
            by_cases e : f = k
            · subst e
              simp only [if_true]
              refine ⟨by simp [hz, hlt], by omega, fun x hx => ?_⟩
              obtain ⟨sc, sB, sA⟩ := S5.S
              have sB' := sB.kept (p := (· ≠ w.heap.size)) (Kept.set (b := w.heap.size) (o := f) (Kept.refl _ _) (by simp) (.slice (some ⟨w0.heap.size + 2 + 1, 0, none⟩) (fm f).nn (fm f).nn)) (show w0.heap.size + 2 + 1 ≠ w.heap.size by omega)
              have hA := sA.2 x hx
              have hd := HALL.out x hx
              simp only [hd, Bool.true_and] at hA
              exact ⟨by rw [sB'.cell]; exact hA.1, by rw [sB'.cell]; exact hA.2⟩
            · simp only [if_neg e]
              obtain ⟨h1, h2, h3⟩ := HG.out f (by omega)
              refine ⟨?_, h2, h3.keptIn ?_ h2⟩
              · rw [Array.getElem?_setIfInBounds, if_neg (fun h => e h.symm)]; exact h1
              · refine Kept.set (Kept.trans (kept_onw O5 fun x hx => hx.1) fun x hx => K5.kept x ⟨Nat.lt_of_lt_of_le hx.1 O5.size, ?_⟩) (by omega) _
                show x ≠ w0.heap.size + 1 ∧ x ≠ w0.heap.size + 2 ∧ x ≠ w0.heap.size + 2 + 1
                have := hx.1; omega
          case measure => simp [intOf]; omega
    · have : k = nf := by omega
      subst this
      go_wp2_with fail
      go_ret
      exact ⟨_, sb, rfl, ob, fun f hf => ⟨by rw [B.cell]; exact (HG.out f hf).1, (HG.out f hf).2.2⟩, Nat.le_refl _, fun f hf => by have := (HG.out f hf).2.1; omega⟩
end Go.Proofs.YtnokgdgikdgaeaaGreat

namespace Go.Proofs.YtnokgdgikdgaeaaGreat
open Go.RowKit
attribute [local go_sem] run_store_float

abbrev MK := Nat → Option (Nat × Nat)
def mFn : Option (Nat × Nat) → Int
  | some x => x.1
  | none => 0
def mNd : Option (Nat × Nat) → Int
  | some x => x.2
  | none => 0
def MArr (c : Array Value) (n : Nat) (s : MK) : Prop := c.size = n * 3 ∧ ∀ k, k < n → c[k * 3]? = some (.bool (s k).isSome) ∧ c[k * 3 + 1]? = some (.int .i64 (mFn (s k))) ∧ c[k * 3 + 2]? = some (.int .i64 (mNd (s k)))
theorem MArr.set {c : Array Value} {n : Nat} {s : MK} (h : MArr c n s) (i f m : Nat) : MArr (((c.setIfInBounds (i * 3) (.bool true)).setIfInBounds (i * 3 + 1) (.int .i64 f)).setIfInBounds (i * 3 + 2) (.int .i64 m)) n (fun k => if k = i then some (f, m) else s k) := by
  refine ⟨by simpa using h.1, fun k hk => ?_⟩
  by_cases e : k = i
  · subst e
    have h1 : k * 3 < c.size := by rw [h.1]; omega
    have h2 : k * 3 + 1 < c.size := by rw [h.1]; omega
    have h3 : k * 3 + 2 < c.size := by rw [h.1]; omega
    refine ⟨?_, ?_, ?_⟩
    · rw [Array.getElem?_setIfInBounds, if_neg (by omega), Array.getElem?_setIfInBounds, if_neg (by omega)]; simp [h1]
    · rw [Array.getElem?_setIfInBounds, if_neg (by omega)]; simp [h2, mFn]
    · simp [h3, mNd]
  · obtain ⟨h1, h2, h3⟩ := h.2 k hk
    simp only [if_neg e]
    refine ⟨?_, ?_, ?_⟩
    · rw [Array.getElem?_setIfInBounds, if_neg (by omega), Array.getElem?_setIfInBounds, if_neg (by omega), Array.getElem?_setIfInBounds, if_neg (by omega)]; exact h1
    · rw [Array.getElem?_setIfInBounds, if_neg (by omega), Array.getElem?_setIfInBounds, if_neg (by omega), Array.getElem?_setIfInBounds, if_neg (by omega)]; exact h2
    · rw [Array.getElem?_setIfInBounds, if_neg (by omega), Array.getElem?_setIfInBounds, if_neg (by omega), Array.getElem?_setIfInBounds, if_neg (by omega)]; exact h3

/-- The makers, after n nodes of fn f. -/
def mk1 (u : UD) (f : Nat) (s : MK) : Nat → MK
  | 0 => s
  | n + 1 => if ((u.fn f).nd n).kind = 36 ∧ withinB (((u.fn f).nd n).rf 0) u.nf = true ∧ (mk1 u f s n (((u.fn f).nd n).rf 0).toNat).isSome = false then (fun k => if k = (((u.fn f).nd n).rf 0).toNat then some (f, n) else mk1 u f s n k) else mk1 u f s n
def mkF (u : UD) : Nat → MK
  | 0 => fun _ => none
  | f + 1 => mk1 u f (mkF u f) (u.fn f).nn
theorem mk1_step (u : UD) (f : Nat) (s : MK) (n : Nat) : mk1 u f s (n + 1) = if ((u.fn f).nd n).kind = 36 ∧ withinB (((u.fn f).nd n).rf 0) u.nf = true ∧ (mk1 u f s n (((u.fn f).nd n).rf 0).toNat).isSome = false then (fun k => if k = (((u.fn f).nd n).rf 0).toNat then some (f, n) else mk1 u f s n k) else mk1 u f s n := rfl

def MakersAt (w : World) (b n : Nat) (s : MK) : Prop := ∀ i, i < n → w.cell? ⟨b, i * 3, none⟩ = some (.bool (s i).isSome) ∧ w.cell? ⟨b, i * 3 + 1, none⟩ = some (.int .i64 (mFn (s i))) ∧ w.cell? ⟨b, i * 3 + 2, none⟩ = some (.int .i64 (mNd (s i)))
theorem MakersAt.onw {w w' : World} (h : Onw w w') {b n s} (m : MakersAt w b n s) : MakersAt w' b n s := fun i hi => ⟨cell_onw h (m i hi).1, cell_onw h (m i hi).2.1, cell_onw h (m i hi).2.2⟩

theorem info_maker : (Tryz.prog.info? 96).map (fun i => (i.zero, i.size, i.bytes)) = some (some (.agg #[.bool false, .int .i64 0, .int .i64 0]), 3, 24) := by kernel_rfl
theorem run_make_makers (n : Nat) (hn : n ≤ 1048576) (w : World) :
    (Instr.makeSlice 42 (.int .i64 n) (.int .i64 n)).run Tryz.prog w = .ok (.slice (some ⟨w.heap.size, 0, none⟩) n n) (w.alloc (.cells (madeCells #[.bool false, .int .i64 0, .int .i64 0] (n * 3)) 96)) := by
  obtain ⟨i0, hi, hz0, hz1, hz2⟩ := info_parts info_maker
  have := run_make (P := Tryz.prog) w 42 96 i0 _ Tryz.underlying42 hi hz0 .i64 .i64 n n (by omega) (by omega) (by rw [hz2]; omega) (by omega)
  simpa [hz1, Value.cells] using this
theorem made_maker (n : Nat) : MArr (madeCells #[.bool false, .int .i64 0, .int .i64 0] (n * 3)) n (fun _ => none) := by
  refine ⟨size_madeCells _ _, fun k hk => ⟨?_, ?_, ?_⟩⟩
  · have h1 : k * 3 < n * 3 := by omega
    have h2 : k * 3 % 3 = 0 := by omega
    simp [madeCells, h1, h2]
  · have h1 : k * 3 + 1 < n * 3 := by omega
    have h2 : (k * 3 + 1) % 3 = 1 := by omega
    simp [madeCells, h1, h2, mFn]
  · have h1 : k * 3 + 2 < n * 3 := by omega
    have h2 : (k * 3 + 2) % 3 = 2 := by omega
    simp [madeCells, h1, h2, mNd]

set_option maxRecDepth 100000 in
set_option maxHeartbeats 4000000 in
theorem makersOf_any (u : UM) (ab : Nat) (fb : Nat → Nat) (w : World) (hn : u.nf ≤ 1048576) (hs : ∀ f, f < u.nf → (u.fm f).Small) (hnk : ∀ f, f < u.nf → ∀ n, n < (u.fm f).nn → ((u.fm f).nm n).nk ≤ 200) (hr : ∀ f, f < u.nf → ∀ n, n < (u.fm f).nn → ((u.fm f).nm n).kind = 36 → ((u.fm f).nm n).nr = 1) (ha : u.At w) (hF : FormsAll w ab u.nf fb u.fm) :
    Calls Tryz.prog 23 #[.slice u.fa u.nf u.fc, .slice (some ⟨ab, 0, none⟩) u.nf u.nf] w fun e w' => ∃ mb, e = .returned (.slice (some ⟨mb, 0, none⟩) u.nf u.nf) ∧ Onw w w' ∧ MakersAt w' mb u.nf (mkF u.toUD u.nf) ∧ w.heap.size ≤ mb := by
  obtain ⟨nf, fm, ua, uc⟩ := u
  simp only at *
  have HS : Hid _ := hs
  have HA : Hid _ := ha
  have HNK : Hid _ := hnk
  have HR : Hid _ := hr
  have HF : Hid _ := hF
  clear hs ha hnk hr hF
  have hmk := run_make_makers nf hn
  go_enter Tryz.func23, Tryz.ntmps23
  go_wp2_with fail
  clear hmk
  go_loopw [17] (fun i wr => ∃ (k : Nat) (cur : Array Value), k ≤ nf ∧ i = .int .i64 k ∧ Onw w wr ∧ Blk wr w.heap.size 96 cur ∧ MArr cur nf (mkF (UM.toUD ⟨nf, fm, ua, uc⟩) k)) (fun i _ => nf - (intOf i).toNat)
  case atStart => exact ⟨0, _, Nat.zero_le _, rfl, Onw.alloc _ _, Blk.new _ _ _, made_maker _⟩
  case round =>
    obtain ⟨k, cur, hk, rfl, ob, B, A⟩ := hrel
    by_cases hlt : k < nf
    · have g0 := cell_onw ob (HF.out k hlt).1
      have h2 := (HF.out k hlt).2
      have zB := B.lt
      have snn := (HS.out k hlt).2.2.1
      go_wp2_with fail
      clear g0
      go_loopw [25] (fun j wr => ∃ (i : Nat) (cur : Array Value), i ≤ (fm k).nn ∧ j = .int .i64 i ∧ Onw w wr ∧ Blk wr w.heap.size 96 cur ∧ MArr cur nf (mk1 (UM.toUD ⟨nf, fm, ua, uc⟩) k (mkF (UM.toUD ⟨nf, fm, ua, uc⟩) k) i)) (fun j _ => (fm k).nn - (intOf j).toNat)
      case atStart => exact ⟨0, cur, Nat.zero_le _, rfl, ob, B, A⟩
      case round =>
        clear B A ob zB
        obtain ⟨i, cur, hi, rfl, ob, B, A⟩ := hrel
        by_cases hit : i < (fm k).nn
        · obtain ⟨v, g1, kk, hv, hI, _⟩ := h2 i hit
          subst hv
          have g1' := cell_onw ob g1
          have zg := cell_lt g1'
          clear g1
          have nk2 := HNK.out k hlt i hit
          have st : Hid _ := mk1_step (UM.toUD ⟨nf, fm, ua, uc⟩) k (mkF (UM.toUD ⟨nf, fm, ua, uc⟩) k) i
          by_cases hkq : ((fm k).nm i).kind = 36
          · have asl := as_fn_yes (d := ((fm k).nm i).toND) nk2 hkq
            have hnr := HR.out k hlt i hit hkq
            obtain ⟨rb, ro, hra, hc⟩ := (((HA.out.2 k hlt).2.2.2 i hit).1.onw ob) (by omega)
            have r0 := hc 0 (by omega)
            simp only [Nat.add_zero] at r0
            have zr := cell_lt r0
            have HKQ : Hid _ := hkq
            rw [hra, hnr] at g1'
            have HRF : Hid ((((UM.toUD ⟨nf, fm, ua, uc⟩).fn k).nd i).rf 0 = ((fm k).nm i).rf 0) := rfl
            clear hc hra hnr hkq
            by_cases hin : 0 ≤ ((fm k).nm i).rf 0 ∧ ((fm k).nm i).rf 0 < nf
            · obtain ⟨q, hq⟩ := Int.eq_ofNat_of_zero_le hin.1
              have hqn : q < nf := by omega
              have hw : Hid (withinB (q : Int) nf = true) := by show _ = _; simp [withinB]; omega
              have HQ : Hid _ := hq
              rw [hq] at r0
              clear hin hq
              obtain ⟨m0, m1, m2⟩ := A.2 q hqn
              rw [← B.cell] at m0 m1 m2
              have fs := B.free
              have zB := B.lt
              cases hfd : (mk1 (UM.toUD ⟨nf, fm, ua, uc⟩) k (mkF (UM.toUD ⟨nf, fm, ua, uc⟩) k) i q).isSome
              · rw [hfd] at m0
                have R : Hid (MArr (((cur.setIfInBounds (q * 3) (.bool true)).setIfInBounds (q * 3 + 1) (.int .i64 k)).setIfInBounds (q * 3 + 2) (.int .i64 i)) nf (mk1 (UM.toUD ⟨nf, fm, ua, uc⟩) k (mkF (UM.toUD ⟨nf, fm, ua, uc⟩) k) (i + 1))) := by
                  show MArr _ _ _
                  have e1 : ((((UM.toUD ⟨nf, fm, ua, uc⟩).fn k).nd i).rf 0) = (q : Int) := HRF.out.trans HQ.out
                  rw [st.out, if_pos ⟨HKQ.out, by rw [e1]; exact hw.out, by rw [e1]; exact hfd⟩, e1]
                  exact A.set q k i
                go_wp2_with fail
                refine (within_any _ _ _).mono ?_
                rintro e w1 ⟨rfl, rfl⟩
                rw [hw.out]
                go_wp2_with fail
                go_roundw
                case rel => exact ⟨i + 1, _, by omega, by go_num, (below_set (below_set (below_set ob (Nat.le_refl _) _) (Nat.le_refl _) _) (Nat.le_refl _) _).trans (Below.mono (Onw.alloc _ _) (by simp only [World.size_setCell]; exact ob.size)), (((B.set (q * 3) _).set (q * 3 + 1) _).set (q * 3 + 2) _).onw (Onw.alloc _ _), R.out⟩
                case measure => simp [intOf]; omega
              · rw [hfd] at m0
                go_wp2_with fail
                refine (within_any _ _ _).mono ?_
                rintro e w1 ⟨rfl, rfl⟩
                rw [hw.out]
                go_wp2_with fail
                go_roundw
                case rel =>
                  refine ⟨i + 1, cur, by omega, by go_num, ob.trans (Onw.alloc _ _), B.onw (Onw.alloc _ _), ?_⟩
                  have e1 : ((((UM.toUD ⟨nf, fm, ua, uc⟩).fn k).nd i).rf 0) = (q : Int) := HRF.out.trans HQ.out
                  rw [st.out, if_neg (fun h => by have h3 := h.2.2; rw [e1] at h3; have h4 := h3.symm.trans hfd; cases h4)]; exact A
                case measure => simp [intOf]; omega
            · have hw : Hid (withinB (((fm k).nm i).rf 0) nf = false) := by show _ = _; rw [← Bool.not_eq_true]; simp [withinB]; omega
              clear hin
              go_wp2_with fail
              refine (within_any _ _ _).mono ?_
              rintro e w1 ⟨rfl, rfl⟩
              rw [hw.out]
              go_wp2_with fail
              go_roundw
              case rel =>
                refine ⟨i + 1, cur, by omega, by go_num, ob.trans (Onw.alloc _ _), B.onw (Onw.alloc _ _), ?_⟩
                rw [st.out, if_neg (fun h => by have h3 := h.2.1; have h4 := hw.out.symm.trans h3; cases h4)]; exact A
              case measure => simp [intOf]; omega
          · have asl := as_fn_no (d := ((fm k).nm i).toND) nk2 hkq
            have HKQ : Hid _ := hkq
            go_wp2_with fail
            go_roundw
            case rel => exact ⟨i + 1, cur, by omega, by go_num, ob.trans (Onw.alloc _ _), B.onw (Onw.alloc _ _), by rw [st.out, if_neg (fun h => HKQ.out h.1)]; exact A⟩
            case measure => simp [intOf]; omega
        · have : i = (fm k).nn := by omega
          subst this
          go_wp2_with fail
          go_roundw
          case rel => exact ⟨k + 1, cur, by omega, by go_num, ob, B, A⟩
          case measure => simp [intOf]; omega
    · have : k = nf := by omega
      subst this
      go_wp2_with fail
      go_ret
      exact ⟨_, rfl, ob, fun i hi => ⟨by rw [B.cell]; exact (A.2 i hi).1, by rw [B.cell]; exact (A.2 i hi).2.1, by rw [B.cell]; exact (A.2 i hi).2.2⟩, Nat.le_refl _⟩
end Go.Proofs.YtnokgdgikdgaeaaGreat
