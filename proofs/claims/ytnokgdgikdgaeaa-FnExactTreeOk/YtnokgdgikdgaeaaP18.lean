import Derived.Test.YtnokgdgikdgaeaaP17
namespace Go.Proofs.Ytnokgdgikdgaeaa
open Go.RowKit
attribute [local go_sem] run_store_float

/-- The kids from the last to the first, each just ahead of where the one behind it begins: where they begin. -/
def downB (B : Nat → Int) (kd : Nat → Int) : Nat → Int → Option Int
  | 0, a => some a
  | j + 1, a => bif kd j == a - 1 then downB B kd j (B (kd j).toNat) else none
def begN (pd : Nat → PD) : Nat → Nat → Int
  | 0 => fun _ => 0
  | i + 1 => fun k => if k = i then (downB (begN pd i) (pd i).kd (pd i).nk i).getD 0 else begN pd i k
def okB (pd : Nat → PD) (i : Nat) : Bool := (downB (begN pd i) (pd i).kd (pd i).nk i).isSome
def orderI (pd : Nat → PD) (np : Nat) : Option Nat := match firstBad (okB pd) 0 np with
  | some n => some n
  | none => bif begN pd np (np - 1) == 0 then none else some (np - 1)
theorem downB_le {B kd : Nat → Int} (hB : ∀ k : Nat, 0 ≤ B k ∧ B k ≤ k) : ∀ (j : Nat) (a r : Int), (∀ q, q < j → 0 ≤ kd q) → 0 ≤ a → downB B kd j a = some r → 0 ≤ r ∧ r ≤ a
  | 0, a, r, _, h0, h => by simp only [downB, Option.some.injEq] at h; omega
  | j + 1, a, r, hk, h0, h => by
    unfold downB at h
    cases hc : (kd j == a - 1)
    · rw [hc] at h; simp at h
    · rw [hc] at h
      simp only [cond_true] at h
      have k0 := hk j (by omega)
      have s0 := hB (kd j).toNat
      simp only [beq_iff_eq] at hc
      have := downB_le hB j _ r (fun q hq => hk q (by omega)) (by omega) h
      omega
theorem begN_le {pd : Nat → PD} {np : Nat} (hks : ∀ i, i < np → ∀ j, j < (pd i).nk → 0 ≤ (pd i).kd j) : ∀ i, i ≤ np → ∀ k : Nat, 0 ≤ begN pd i k ∧ begN pd i k ≤ k
  | 0, _, k => by simp only [begN]; omega
  | i + 1, hi, k => by
    have ih := begN_le hks i (by omega)
    simp only [begN]
    by_cases e : k = i
    · rw [if_pos e]
      cases hd : downB (begN pd i) (pd i).kd (pd i).nk i
      · simp only [Option.getD_none]; omega
      · have := downB_le ih _ _ _ (hks i (by omega)) (by omega) hd
        simp only [Option.getD_some]; omega
    · rw [if_neg e]; exact ih k
theorem downB_step {B kd : Nat → Int} {q k : Nat} {x : Int} (h : kd q = (k : Int)) (e : (k : Int) = x - 1) : downB B kd (q + 1) x = downB B kd q (B k) := by
  rw [downB, h, beq_iff_eq.mpr e]; rfl
theorem downB_off {B kd : Nat → Int} {q k : Nat} {x : Int} (h : kd q = (k : Int)) (e : ¬ (k : Int) = x - 1) : downB B kd (q + 1) x = none := by
  rw [downB, h, beq_false_of_ne e]; rfl

set_option maxRecDepth 100000 in
set_option maxHeartbeats 4000000 in
theorem firstOutOfOrder_any (l lo ab : Nat) (pm : Nat → PM) (pk : Nat → Option Addr) (w : World) (hn : l + 1 ≤ 1048576) (hsl : ∀ i, i < l + 1 → slimP (pm i).toPD) (hks : ∀ i, i < l + 1 → ∀ j, j < (pm i).nk → 0 ≤ (pm i).kd j ∧ (pm i).kd j < i) (hP : PiecesAt w lo ab (l + 1) pm pk) :
    Calls Try.prog 17 #[.slice (some ⟨ab, 0, none⟩) (l + 1 : Nat) (l + 1 : Nat)] w fun e w' => e = .returned (.int .i64 (optI (orderI (pdOf pm) (l + 1)))) ∧ Onw w w' := by
  have HP : Hid _ := hP
  have HSL : Hid _ := hsl
  have HKS : Hid _ := hks
  have HB : Hid _ := begN_le (pd := pdOf pm) (np := l + 1) fun i hi j hj => (hks i hi j hj).1
  clear hP hsl hks
  have hmk := run_make_ints (l + 1) hn
  simp only [show (((l + 1 : Nat)) : Int) = (l : Int) + 1 from rfl] at hmk
  go_enter Try.func17, Try.ntmps17
  go_wp2_with fail
  clear hmk
  go_loopw [16] (fun x wr => ∃ (i : Nat) (c : Array Value), i ≤ l + 1 ∧ x = .int .i64 i ∧ Onw w wr ∧ Blk wr w.heap.size 3 c ∧ Arr c (l + 1) (begN (pdOf pm) i) ∧ firstBad (okB (pdOf pm)) 0 (l + 1) = firstBad (okB (pdOf pm)) i (l + 1 - i)) (fun x _ => l + 1 - (intOf x).toNat)
  case atStart => exact ⟨0, _, Nat.zero_le _, rfl, Onw.alloc _ _, Blk.new _ _ _, ⟨size_madeCells _ _, fun k hk => made_int _ k hk⟩, rfl⟩
  case round =>
    obtain ⟨i, c, hi, rfl, ob, B, A, hf⟩ := hrel
    have HF : Hid _ := hf
    have HA : Hid _ := A
    have HBL : Hid _ := B
    clear hf A B
    by_cases hlt : i < l + 1
    · obtain ⟨h1, hV, _⟩ := PiecesAt.onw ob HP.out i hlt
      have hkn : knP (pm i).toPD = (pm i).nk := by unfold knP; rw [if_pos (HSL.out i hlt)]
      have hnk : (pm i).nk ≤ 200 := (HSL.out i hlt).1
      have c0 : wr.cell? ⟨ab, i, none⟩ = some (.iface (ptT (pm i).toPD) (.agg #[.int .i64 (i : Nat), .int .i64 (pm i).kind, .int .i64 (pm i).frm, .int .i64 (pm i).tto, .int .i64 (pm i).line, .int .i64 (pm i).op, .int .i64 (pm i).num, .float .f64 (pm i).flt, .string (pm i).text, .slice (pm i).na (pm i).nn (pm i).nc, .slice (pm i).ka (pm i).nk (pm i).kc, .slice (pk i) (pm i).nk (pm i).nk])) := by
        have := h1
        simp only [pxOf, pv, PX.val, hkn] at this
        exact this
      rw [hkn] at hV
      have HV : Hid _ := hV
      clear h1 hV hkn
      have zb := cell_lt c0
      have ii : (i : Int) < (l : Int) + 1 := by omega
      have mt := meth_top (pm i).toPD
      unfold MethOk at mt
      have fk := field_kids
      obtain ⟨PK, hPK⟩ : ∃ PK, pk i = PK := ⟨_, rfl⟩
      rw [hPK] at c0
      have HPK : Hid _ := hPK
      clear hPK
      obtain ⟨w0, hw0⟩ : ∃ x, x = wr := ⟨_, rfl⟩
      subst hw0
      go_wp2_with fail
      refine (top_any (pm i) i PK (pm i).nk (pm i).nk _).mono ?_
      rintro e w1 ⟨rfl, b1⟩
      have ob1 := ob.trans b1
      clear c0
      go_wp2_with fail
      go_loopw [6, 8] (fun a j wr2 => ∃ (q : Nat) (x : Int), q ≤ (pm i).nk ∧ a = .int .i64 x ∧ j = .int .i64 ((q : Int) - 1) ∧ 0 ≤ x ∧ x ≤ i ∧ Onw w1 wr2 ∧ downB (begN (pdOf pm) i) (pm i).kd (pm i).nk i = downB (begN (pdOf pm) i) (pm i).kd q x) (fun _ j _ => (intOf j + 1).toNat)
      case atStart => exact ⟨(pm i).nk, i, Nat.le_refl _, rfl, rfl, by omega, by omega, Onw.refl _, rfl⟩
      case round =>
        obtain ⟨q, x, hq, rfl, hj, hx0, hx1, ob2, hd⟩ := hrel
        have HD : Hid _ := hd
        clear hd mt
        have B3 : Hid (Blk wr w.heap.size 3 c) := Blk.onw (b1.trans ob2) HBL.out
        by_cases hq0 : 0 < q
        · obtain ⟨q', rfl⟩ : ∃ q', q = q' + 1 := ⟨q - 1, by omega⟩
          rw [show (((q' + 1 : Nat) : Int) - 1) = (q' : Int) from by omega] at hj
          subst hj
          obtain ⟨j0, j1⟩ := HKS.out i hlt q' (by omega)
          obtain ⟨k, hk⟩ := Int.eq_ofNat_of_zero_le j0
          have hkl : k < l + 1 := by omega
          have hkx : Hid (kidX (pm i).toPD (pxOf pm pk) i q' = some ⟨pm k, k, pk k⟩) := by
            show _ = _
            unfold kidX
            rw [if_pos ⟨j0, j1⟩, hk]; rfl
          have hkn : knP (pm k).toPD = (pm k).nk := by unfold knP; rw [if_pos (HSL.out k hkl)]
          obtain ⟨kb, ko, hka, hcc⟩ := ValsAt.onw (b1.trans ob2) HV.out (by omega)
          rw [HPK.out] at hka
          subst hka
          have k0 : wr.cell? ⟨kb, ko + q', none⟩ = some (.iface (ptT (pm k).toPD) (.agg #[.int .i64 (k : Nat), .int .i64 (pm k).kind, .int .i64 (pm k).frm, .int .i64 (pm k).tto, .int .i64 (pm k).line, .int .i64 (pm k).op, .int .i64 (pm k).num, .float .f64 (pm k).flt, .string (pm k).text, .slice (pm k).na (pm k).nn (pm k).nc, .slice (pm k).ka (pm k).nk (pm k).kc, .slice (pk k) (pm k).nk (pm k).nk])) := by
            have := hcc q' (by omega)
            simp only [hkx.out, pv, PX.val, hkn] at this
            exact this
          clear hcc hkn
          have HK : Hid _ := hk
          rw [hk] at j1
          clear hk j0
          have zk := cell_lt k0
          have qn : (q' : Int) < ((pm i).nk : Int) := by omega
          have q0 : (0 : Int) ≤ (q' : Int) := by omega
          have kn : (k : Int) < (l : Int) + 1 := by omega
          have mt := meth_top (pm k).toPD
          unfold MethOk at mt
          have fp := field_place
          obtain ⟨sv, hsv⟩ : ∃ sv, begN (pdOf pm) i k = sv := ⟨_, rfl⟩
          have hb := HB.out i (by omega) k
          rw [hsv] at hb
          obtain ⟨s0, s1⟩ := hb
          have HSV : Hid _ := hsv
          clear hsv
          go_wp2_with fail
          refine (top_any (pm k) k (pk k) (pm k).nk (pm k).nk _).mono ?_
          rintro e w2 ⟨rfl, b2⟩
          have g0 : w2.cell? ⟨w.heap.size, k, none⟩ = some (.int .i64 sv) := by
            rw [Blk.cell (Blk.onw b2 B3.out), ← HSV.out]; exact HA.out.2 k hkl
          clear k0 mt
          by_cases y0 : (k : Int) = x - 1
          · obtain rfl : x = (k : Int) + 1 := by omega
            clear y0
            go_wp2_with fail
            go_roundw
            case rel => exact ⟨q', sv, by omega, rfl, by go_num, by omega, by omega, ob2.trans b2, by rw [HD.out, downB_step HK.out (by omega), HSV.out]⟩
            case measure => simp [intOf] <;> omega
          · have y1 : ((k : Int) != x - 1) = true := by simp only [bne_iff_ne, ne_eq]; exact y0
            go_wp2_with fail
            go_ret
            have hbad : okB (pdOf pm) i = false := by
              show (downB (begN (pdOf pm) i) (pm i).kd (pm i).nk i).isSome = false
              rw [HD.out, downB_off HK.out (by omega)]; rfl
            exact ⟨ret_int (by unfold orderI; rw [HF.out, firstBad_bad hlt hbad]; rfl), (ob1.trans ob2).trans b2⟩
        · obtain rfl : q = 0 := by omega
          subst hj
          have f1 := Blk.free B3.out
          obtain ⟨v0, gx⟩ := Blk.some B3.out (j := i) (by rw [HA.out.1]; exact hlt)
          go_wp2_with fail
          go_roundw
          case rel =>
            refine ⟨i + 1, _, by omega, by go_num, below_set (ob1.trans ob2) (Nat.le_refl _) _, Blk.set B3.out i _, Arr.set HA.out i _ fun m _ => ?_, ?_⟩
            · simp only [begN]
              by_cases e : m = i
              · rw [if_pos e, if_pos e]
                show (downB (begN (pdOf pm) i) (pm i).kd (pm i).nk i).getD 0 = _
                rw [HD.out]; rfl
              · rw [if_neg e, if_neg e]
            · have hgood : okB (pdOf pm) i = true := by
                show (downB (begN (pdOf pm) i) (pm i).kd (pm i).nk i).isSome = true
                rw [HD.out]; rfl
              rw [HF.out, firstBad_ok hlt hgood]
          case measure => simp [intOf] <;> omega
    · obtain rfl : i = l + 1 := by omega
      have hE : Hid (firstBad (okB (pdOf pm)) 0 (l + 1) = none) := by show _ = _; rw [HF.out, firstBad_end hlt]
      obtain ⟨sv, hsv⟩ : ∃ sv, begN (pdOf pm) (l + 1) l = sv := ⟨_, rfl⟩
      have g0 : wr.cell? ⟨w.heap.size, l, none⟩ = some (.int .i64 sv) := by
        rw [Blk.cell HBL.out, ← hsv]; exact HA.out.2 l (by omega)
      have HSV : Hid _ := hsv
      clear hsv hlt hi HF
      by_cases e : sv = 0
      · subst e
        go_wp2_with fail
        go_ret
        exact ⟨ret_int (by unfold orderI; rw [hE.out]; simp only [Nat.add_sub_cancel]; rw [HSV.out]; rfl), ob⟩
      · have e1 : (sv != 0) = true := by simp only [bne_iff_ne, ne_eq]; exact e
        go_wp2_with fail
        go_ret
        exact ⟨ret_int (by unfold orderI; rw [hE.out]; simp only [Nat.add_sub_cancel]; rw [HSV.out, beq_false_of_ne e]; first | rfl | (simp [optI]; done)), ob⟩
end Go.Proofs.Ytnokgdgikdgaeaa

namespace Go.Proofs.Ytnokgdgikdgaeaa
open Go.RowKit
attribute [local go_sem] run_store_float

set_option maxRecDepth 100000 in
set_option maxHeartbeats 4000000 in
theorem firstTooDeep_any (l lo ab : Nat) (pm : Nat → PM) (pk : Nat → Option Addr) (w : World) (hn : l + 1 ≤ 1048576) (hsl : ∀ i, i < l + 1 → slimP (pm i).toPD) (hks : ∀ i, i < l + 1 → ∀ j, j < (pm i).nk → 0 ≤ (pm i).kd j ∧ (pm i).kd j < i) (hP : PiecesAt w lo ab (l + 1) pm pk) :
    Calls Try.prog 18 #[.slice (some ⟨ab, 0, none⟩) (l + 1 : Nat) (l + 1 : Nat)] w fun e w' => e = .returned (.int .i64 (optI (firstBad (fun i => decide (depD (pdOf pm) (l + 1) (l + 1) i ≤ 100)) 0 (l + 1)))) ∧ Onw w w' := by
  have HP : Hid _ := hP
  have HSL : Hid _ := hsl
  have HK : Hid _ := hks
  clear hP hsl hks
  have hmk := run_make_ints (l + 1) hn
  simp only [show (((l + 1 : Nat)) : Int) = (l : Int) + 1 from rfl] at hmk
  go_enter Try.func18, Try.ntmps18
  go_wp2_with fail
  clear hmk
  go_loopw [4] (fun x wr => ∃ (s : Nat) (c : Array Value), s ≤ l + 1 ∧ x = .int .i64 ((l : Int) - s) ∧ Onw w wr ∧ Blk wr w.heap.size 3 c ∧ Arr c (l + 1) (depD (pdOf pm) (l + 1) s)) (fun x _ => (intOf x + 1).toNat)
  case atStart => exact ⟨0, _, Nat.zero_le _, by simp, Onw.alloc _ _, Blk.new _ _ _, ⟨size_madeCells _ _, fun k hk => made_int _ k hk⟩⟩
  case round =>
    obtain ⟨s, c, hs, hx, ob, B, A⟩ := hrel
    have HB : Hid _ := B
    have HA : Hid _ := A
    clear B A
    by_cases hsl : s < l + 1
    · obtain ⟨i, hi⟩ : ∃ i, l = i + s := ⟨l - s, by omega⟩
      rw [show (l : Int) - (s : Int) = (i : Int) by omega] at hx
      subst hx
      have hil : i < l + 1 := by omega
      have hd : Hid (depD (pdOf pm) (l + 1) (s + 1) = dep1 (depD (pdOf pm) (l + 1) s) (pm i).kd i (pm i).nk) := by
        show _ = _
        rw [depD, show l + 1 - 1 - s = i by omega]; rfl
      have HI : Hid _ := hi
      clear hi
      have h1 := (PiecesAt.onw ob HP.out i hil).1
      have hkn : knP (pm i).toPD = (pm i).nk := by unfold knP; rw [if_pos (HSL.out i hil)]
      have hnk : (pm i).nk ≤ 200 := (HSL.out i hil).1
      have c0 : wr.cell? ⟨ab, i, none⟩ = some (.iface (ptT (pm i).toPD) (.agg #[.int .i64 (i : Nat), .int .i64 (pm i).kind, .int .i64 (pm i).frm, .int .i64 (pm i).tto, .int .i64 (pm i).line, .int .i64 (pm i).op, .int .i64 (pm i).num, .float .f64 (pm i).flt, .string (pm i).text, .slice (pm i).na (pm i).nn (pm i).nc, .slice (pm i).ka (pm i).nk (pm i).kc, .slice (pk i) (pm i).nk (pm i).nk])) := by
        have := h1
        simp only [pxOf, pv, PX.val, hkn] at this
        exact this
      clear h1 hkn
      have zb := cell_lt c0
      have ii : (i : Int) < (l : Int) + 1 := by omega
      have i0 : (0 : Int) ≤ (i : Int) := by omega
      have mt := meth_top (pm i).toPD
      unfold MethOk at mt
      have fk := field_kids
      obtain ⟨PK, hPK⟩ : ∃ PK, pk i = PK := ⟨_, rfl⟩
      rw [hPK] at c0
      have HPK : Hid _ := hPK
      clear hPK
      obtain ⟨w0, hw0⟩ : ∃ x, x = wr := ⟨_, rfl⟩
      subst hw0
      go_wp2_with fail
      refine (top_any (pm i) i PK (pm i).nk (pm i).nk _).mono ?_
      rintro e w1 ⟨rfl, b1⟩
      have ob1 : Hid _ := ob.trans b1
      clear c0
      go_wp2_with fail
      go_loopw [26] (fun x wr2 => ∃ (j : Nat) (c : Array Value), j ≤ (pm i).nk ∧ x = .int .i64 j ∧ Onw w wr2 ∧ Blk wr2 w.heap.size 3 c ∧ Arr c (l + 1) (dep1 (depD (pdOf pm) (l + 1) s) (pm i).kd i j)) (fun x _ => (pm i).nk - (intOf x).toNat)
      case atStart => exact ⟨0, c, Nat.zero_le _, rfl, ob1.out, Blk.onw b1 HB.out, HA.out⟩
      case round =>
        obtain ⟨j, c', hj, rfl, ob2, B, A⟩ := hrel
        have HA2 : Hid _ := A
        clear A mt
        by_cases hjt : j < (pm i).nk
        · obtain ⟨j0, j1⟩ := HK.out i hil j hjt
          obtain ⟨k, hk⟩ := Int.eq_ofNat_of_zero_le j0
          have hkl : k < l + 1 := by omega
          have hkx : Hid (kidX (pm i).toPD (pxOf pm pk) i j = some ⟨pm k, k, pk k⟩) := by
            show _ = _
            unfold kidX
            rw [if_pos ⟨j0, j1⟩, hk]; rfl
          have hkn : knP (pm k).toPD = (pm k).nk := by unfold knP; rw [if_pos (HSL.out k hkl)]
          have hki : knP (pm i).toPD = (pm i).nk := by unfold knP; rw [if_pos (HSL.out i hil)]
          obtain ⟨kb, ko, hka, hcc⟩ := (HP.out i hil).2.1 (by rw [hki]; omega)
          rw [HPK.out] at hka
          subst hka
          have kw : w.cell? ⟨kb, ko + j, none⟩ = some (.iface (ptT (pm k).toPD) (.agg #[.int .i64 (k : Nat), .int .i64 (pm k).kind, .int .i64 (pm k).frm, .int .i64 (pm k).tto, .int .i64 (pm k).line, .int .i64 (pm k).op, .int .i64 (pm k).num, .float .f64 (pm k).flt, .string (pm k).text, .slice (pm k).na (pm k).nn (pm k).nc, .slice (pm k).ka (pm k).nk (pm k).kc, .slice (pk k) (pm k).nk (pm k).nk])) := by
            have := hcc j (by rw [hki]; exact hjt)
            simp only [hkx.out, pv, PX.val, hkn] at this
            exact this
          have k0 := cell_onw ob2 kw
          have zw := cell_lt kw
          clear hcc hkn hki kw
          have HKD : Hid _ := hk
          rw [hk] at j1
          clear hk j0
          have zk := cell_lt k0
          obtain ⟨v, hv⟩ : ∃ v, dep1 (depD (pdOf pm) (l + 1) s) (pm i).kd i j i = v := ⟨_, rfl⟩
          have hb := dep1_le (depD_le (pd := pdOf pm) (np := l + 1) (fun i hi j hj => (HK.out i hi j hj).2) s hs) j (fun q hq => (HK.out i hil q (by omega)).2) i
          rw [hv] at hb
          obtain ⟨hb0, hb1⟩ := hb
          have s0 : wr.cell? ⟨w.heap.size, i, none⟩ = some (.int .i64 v) := by
            rw [B.cell, ← hv]; exact HA2.out.2 i hil
          have HV2 : Hid _ := hv
          clear hv
          have kl : (k : Int) < (l : Int) + 1 := by omega
          have kz : (0 : Int) ≤ (k : Int) := by omega
          have jn : (j : Int) < ((pm i).nk : Int) := by omega
          have f1 := B.free
          obtain ⟨v0, gx⟩ := B.some (j := k) (by rw [HA2.out.1]; omega)
          have mt := meth_top (pm k).toPD
          unfold MethOk at mt
          have fp := field_place
          have nek : (⟨w.heap.size, k, none⟩ : Addr) ≠ ⟨w.heap.size, i, none⟩ := by
            intro h
            have : k = i := congrArg Addr.off h
            omega
          have hwr : IntKind.i64.wrap (v + 1) = v + 1 := by rw [IntKind.wrap_i64]; omega
          go_wp2_with fail
          go_region_held3 (fun w' => w'.cell? ⟨w.heap.size, i, none⟩ = some (.int .i64 v)) (first | go_keep | (rw [World.cell?_setCell_other _ _ _ _ nek]; assumption) | (rw [World.cell?_setCell_other _ _ _ _ nek.symm]; assumption))
            (first | (go_at_call 79; refine (top_any (pm k) k (pk k) (pm k).nk (pm k).nk _).mono ?_; rintro e w2 ⟨rfl, b2⟩; have O2 : Onw wr w2 := Onw.trans (Below.drew (Onw.refl _)) b2; have q1 := cell_onw O2 s0; have q2 := cell_onw O2 gx; have q3 := (B.onw O2).free))
          go_wp2_with fail
          go_roundw
          case rel =>
            refine ⟨j + 1, _, by omega, by go_num, below_set (ob2.trans O2) (Nat.le_refl _) _, (B.onw O2).set k _, Arr.set HA2.out k _ fun m _ => ?_⟩
            simp only [dep1]
            rw [HKD.out, HV2.out]
            by_cases e : m = k
            · rw [if_pos e, if_pos (by omega)]
            · rw [if_neg e, if_neg (by omega)]
          case measure => simp [intOf] <;> omega
        · obtain rfl : j = (pm i).nk := by omega
          go_wp2_with fail
          go_roundw
          case rel => exact ⟨s + 1, c', by omega, by have := HI.out; go_num, ob2, B, by rw [hd.out]; exact HA2.out⟩
          case measure => simp [intOf] <;> omega
    · obtain rfl : s = l + 1 := by omega
      subst hx
      go_wp2_with fail
      obtain ⟨wB, hwB⟩ : ∃ x, x = wr := ⟨_, rfl⟩
      subst hwB
      go_loopw [43] (fun x wr2 => ∃ i : Nat, i ≤ l + 1 ∧ x = .int .i64 i ∧ Onw wB wr2 ∧ firstBad (fun i => decide (depD (pdOf pm) (l + 1) (l + 1) i ≤ 100)) 0 (l + 1) = firstBad (fun i => decide (depD (pdOf pm) (l + 1) (l + 1) i ≤ 100)) i (l + 1 - i)) (fun x _ => l + 1 - (intOf x).toNat)
      case atStart => exact ⟨0, Nat.zero_le _, rfl, Onw.refl _, rfl⟩
      case round =>
        obtain ⟨i, hi, rfl, o4, hf⟩ := hrel
        have HF : Hid _ := hf
        clear hf
        have ob4 := ob.trans o4
        by_cases hlt : i < l + 1
        · obtain ⟨v, hv⟩ : ∃ v, depD (pdOf pm) (l + 1) (l + 1) i = v := ⟨_, rfl⟩
          have s0 : wr.cell? ⟨w.heap.size, i, none⟩ = some (.int .i64 v) := by
            rw [Blk.cell (Blk.onw o4 HB.out), ← hv]; exact HA.out.2 i hlt
          have zs := cell_lt s0
          have HV2 : Hid _ := hv
          clear hv
          by_cases e : v ≤ 100
          · go_wp2_with fail
            go_roundw
            case rel => exact ⟨i + 1, by omega, by go_num, o4, by rw [HF.out, firstBad_ok (f := (fun i => decide (depD (pdOf pm) (l + 1) (l + 1) i ≤ 100))) hlt (by rw [HV2.out]; exact decide_eq_true (by omega))]⟩
            case measure => simp [intOf] <;> omega
          · go_wp2_with fail
            go_ret
            exact ⟨ret_int (by rw [HF.out, firstBad_bad (f := (fun i => decide (depD (pdOf pm) (l + 1) (l + 1) i ≤ 100))) hlt (by rw [HV2.out]; exact decide_eq_false (by omega))]; rfl), ob4⟩
        · go_wp2_with fail
          go_ret
          exact ⟨ret_int (by rw [HF.out, firstBad_end hlt]; rfl), ob4⟩
end Go.Proofs.Ytnokgdgikdgaeaa

namespace Go.Proofs.Ytnokgdgikdgaeaa
open Go.RowKit

/-- Kid j of a part at i stands ahead of it. -/
def inB (d : PD) (i j : Nat) : Bool := decide (0 ≤ d.kd j) && decide (d.kd j < (i : Int))
theorem hasR_zero (r : Int) (h : r = 1 ∨ r = 2 ∨ r = 4 ∨ r = 8 ∨ r = 16 ∨ r = 32 ∨ r = 64 ∨ r = 128 ∨ r = 256 ∨ r = 512) : hasR 0 r = false := by
  rcases h with rfl | rfl | rfl | rfl | rfl | rfl | rfl | rfl | rfl | rfl <;> decide
def cls1 (k : Int) : Bool := statP k
theorem role_1 (k : Int) : hasR (roleK k) 1 = cls1 k := by
  unfold cls1
  rcases kinds_all k with h | h | h | h | h | h | h | h | h | h | h | h | h | h | h | h | h | h | h | h | h | h | h | h | h | h | h | h | h | h | h | h | h | h | h | h | h | ⟨_, h2, h3⟩
  all_goals first | (subst h; decide) | skip
  · rw [h2, hasR_zero 1 (by simp)]
    obtain ⟨e1, e2, e3, e4, e5, e6, e16, e7, e8, e9, e10, e11, e12, e13, e14, e15, e20, e21, e22, e23, e24, e25, e26, e27, e28, e29, e30, e31, e32, e33, e34, e35, e36, e37, e40, e41, e42⟩ := h3
    symm
    rw [← Bool.not_eq_true]
    simp [statP]
    omega
def cls2 (k : Int) : Bool := (k == 1)
theorem role_2 (k : Int) : hasR (roleK k) 2 = cls2 k := by
  unfold cls2
  rcases kinds_all k with h | h | h | h | h | h | h | h | h | h | h | h | h | h | h | h | h | h | h | h | h | h | h | h | h | h | h | h | h | h | h | h | h | h | h | h | h | ⟨_, h2, h3⟩
  all_goals first | (subst h; decide) | skip
  · rw [h2, hasR_zero 2 (by simp)]
    obtain ⟨e1, e2, e3, e4, e5, e6, e16, e7, e8, e9, e10, e11, e12, e13, e14, e15, e20, e21, e22, e23, e24, e25, e26, e27, e28, e29, e30, e31, e32, e33, e34, e35, e36, e37, e40, e41, e42⟩ := h3
    symm
    rw [← Bool.not_eq_true]
    simp
    omega
def cls4 (k : Int) : Bool := (k == 1 || k == 7)
theorem role_4 (k : Int) : hasR (roleK k) 4 = cls4 k := by
  unfold cls4
  rcases kinds_all k with h | h | h | h | h | h | h | h | h | h | h | h | h | h | h | h | h | h | h | h | h | h | h | h | h | h | h | h | h | h | h | h | h | h | h | h | h | ⟨_, h2, h3⟩
  all_goals first | (subst h; decide) | skip
  · rw [h2, hasR_zero 4 (by simp)]
    obtain ⟨e1, e2, e3, e4, e5, e6, e16, e7, e8, e9, e10, e11, e12, e13, e14, e15, e20, e21, e22, e23, e24, e25, e26, e27, e28, e29, e30, e31, e32, e33, e34, e35, e36, e37, e40, e41, e42⟩ := h3
    symm
    rw [← Bool.not_eq_true]
    simp
    omega
def cls8 (k : Int) : Bool := exprP k
theorem role_8 (k : Int) : hasR (roleK k) 8 = cls8 k := by
  unfold cls8
  rcases kinds_all k with h | h | h | h | h | h | h | h | h | h | h | h | h | h | h | h | h | h | h | h | h | h | h | h | h | h | h | h | h | h | h | h | h | h | h | h | h | ⟨_, h2, h3⟩
  all_goals first | (subst h; decide) | skip
  · rw [h2, hasR_zero 8 (by simp)]
    obtain ⟨e1, e2, e3, e4, e5, e6, e16, e7, e8, e9, e10, e11, e12, e13, e14, e15, e20, e21, e22, e23, e24, e25, e26, e27, e28, e29, e30, e31, e32, e33, e34, e35, e36, e37, e40, e41, e42⟩ := h3
    symm
    rw [← Bool.not_eq_true]
    simp [exprP]
    omega
def cls16 (k : Int) : Bool := (exprP k && !(k == 27))
theorem role_16 (k : Int) : hasR (roleK k) 16 = cls16 k := by
  unfold cls16
  rcases kinds_all k with h | h | h | h | h | h | h | h | h | h | h | h | h | h | h | h | h | h | h | h | h | h | h | h | h | h | h | h | h | h | h | h | h | h | h | h | h | ⟨_, h2, h3⟩
  all_goals first | (subst h; decide) | skip
  · rw [h2, hasR_zero 16 (by simp)]
    obtain ⟨e1, e2, e3, e4, e5, e6, e16, e7, e8, e9, e10, e11, e12, e13, e14, e15, e20, e21, e22, e23, e24, e25, e26, e27, e28, e29, e30, e31, e32, e33, e34, e35, e36, e37, e40, e41, e42⟩ := h3
    symm
    rw [← Bool.not_eq_true]
    simp [exprP]
    omega
def cls32 (k : Int) : Bool := (k == 34)
theorem role_32 (k : Int) : hasR (roleK k) 32 = cls32 k := by
  unfold cls32
  rcases kinds_all k with h | h | h | h | h | h | h | h | h | h | h | h | h | h | h | h | h | h | h | h | h | h | h | h | h | h | h | h | h | h | h | h | h | h | h | h | h | ⟨_, h2, h3⟩
  all_goals first | (subst h; decide) | skip
  · rw [h2, hasR_zero 32 (by simp)]
    obtain ⟨e1, e2, e3, e4, e5, e6, e16, e7, e8, e9, e10, e11, e12, e13, e14, e15, e20, e21, e22, e23, e24, e25, e26, e27, e28, e29, e30, e31, e32, e33, e34, e35, e36, e37, e40, e41, e42⟩ := h3
    symm
    rw [← Bool.not_eq_true]
    simp
    omega
def cls64 (k : Int) : Bool := (k == 34 || k == 27)
theorem role_64 (k : Int) : hasR (roleK k) 64 = cls64 k := by
  unfold cls64
  rcases kinds_all k with h | h | h | h | h | h | h | h | h | h | h | h | h | h | h | h | h | h | h | h | h | h | h | h | h | h | h | h | h | h | h | h | h | h | h | h | h | ⟨_, h2, h3⟩
  all_goals first | (subst h; decide) | skip
  · rw [h2, hasR_zero 64 (by simp)]
    obtain ⟨e1, e2, e3, e4, e5, e6, e16, e7, e8, e9, e10, e11, e12, e13, e14, e15, e20, e21, e22, e23, e24, e25, e26, e27, e28, e29, e30, e31, e32, e33, e34, e35, e36, e37, e40, e41, e42⟩ := h3
    symm
    rw [← Bool.not_eq_true]
    simp
    omega
def cls128 (k : Int) : Bool := targetP k
theorem role_128 (k : Int) : hasR (roleK k) 128 = cls128 k := by
  unfold cls128
  rcases kinds_all k with h | h | h | h | h | h | h | h | h | h | h | h | h | h | h | h | h | h | h | h | h | h | h | h | h | h | h | h | h | h | h | h | h | h | h | h | h | ⟨_, h2, h3⟩
  all_goals first | (subst h; decide) | skip
  · rw [h2, hasR_zero 128 (by simp)]
    obtain ⟨e1, e2, e3, e4, e5, e6, e16, e7, e8, e9, e10, e11, e12, e13, e14, e15, e20, e21, e22, e23, e24, e25, e26, e27, e28, e29, e30, e31, e32, e33, e34, e35, e36, e37, e40, e41, e42⟩ := h3
    symm
    rw [← Bool.not_eq_true]
    simp [targetP]
    omega
def cls256 (k : Int) : Bool := (k == 36)
theorem role_256 (k : Int) : hasR (roleK k) 256 = cls256 k := by
  unfold cls256
  rcases kinds_all k with h | h | h | h | h | h | h | h | h | h | h | h | h | h | h | h | h | h | h | h | h | h | h | h | h | h | h | h | h | h | h | h | h | h | h | h | h | ⟨_, h2, h3⟩
  all_goals first | (subst h; decide) | skip
  · rw [h2, hasR_zero 256 (by simp)]
    obtain ⟨e1, e2, e3, e4, e5, e6, e16, e7, e8, e9, e10, e11, e12, e13, e14, e15, e20, e21, e22, e23, e24, e25, e26, e27, e28, e29, e30, e31, e32, e33, e34, e35, e36, e37, e40, e41, e42⟩ := h3
    symm
    rw [← Bool.not_eq_true]
    simp
    omega
def cls512 (k : Int) : Bool := entryP k
theorem role_512 (k : Int) : hasR (roleK k) 512 = cls512 k := by
  unfold cls512
  rcases kinds_all k with h | h | h | h | h | h | h | h | h | h | h | h | h | h | h | h | h | h | h | h | h | h | h | h | h | h | h | h | h | h | h | h | h | h | h | h | h | ⟨_, h2, h3⟩
  all_goals first | (subst h; decide) | skip
  · rw [h2, hasR_zero 512 (by simp)]
    obtain ⟨e1, e2, e3, e4, e5, e6, e16, e7, e8, e9, e10, e11, e12, e13, e14, e15, e20, e21, e22, e23, e24, e25, e26, e27, e28, e29, e30, e31, e32, e33, e34, e35, e36, e37, e40, e41, e42⟩ := h3
    symm
    rw [← Bool.not_eq_true]
    simp [entryP]
    omega

/-- What the kids of part i may stand as, when all ahead of it are slim. -/
structure Kin (pd : Nat → PD) (d : PD) (i : Nat) (q : Nat → Option PX) : Prop where
  h1 : ∀ j, hasR (roleO (q j)) 1 = (inB d i j && cls1 (kidP pd d j))
  h2 : ∀ j, hasR (roleO (q j)) 2 = (inB d i j && cls2 (kidP pd d j))
  h4 : ∀ j, hasR (roleO (q j)) 4 = (inB d i j && cls4 (kidP pd d j))
  h8 : ∀ j, hasR (roleO (q j)) 8 = (inB d i j && cls8 (kidP pd d j))
  h16 : ∀ j, hasR (roleO (q j)) 16 = (inB d i j && cls16 (kidP pd d j))
  h32 : ∀ j, hasR (roleO (q j)) 32 = (inB d i j && cls32 (kidP pd d j))
  h64 : ∀ j, hasR (roleO (q j)) 64 = (inB d i j && cls64 (kidP pd d j))
  h128 : ∀ j, hasR (roleO (q j)) 128 = (inB d i j && cls128 (kidP pd d j))
  h256 : ∀ j, hasR (roleO (q j)) 256 = (inB d i j && cls256 (kidP pd d j))
  h512 : ∀ j, hasR (roleO (q j)) 512 = (inB d i j && cls512 (kidP pd d j))
theorem kin_of (pm : Nat → PM) (pk : Nat → Option Addr) (d : PD) (i : Nat) (hs : ∀ j, j < i → slimP (pm j).toPD) : Kin (pdOf pm) d i (kidX d (pxOf pm pk) i) := by
  have go : ∀ j r, (r = 1 ∨ r = 2 ∨ r = 4 ∨ r = 8 ∨ r = 16 ∨ r = 32 ∨ r = 64 ∨ r = 128 ∨ r = 256 ∨ r = 512) → hasR (roleO (kidX d (pxOf pm pk) i j)) r = (inB d i j && hasR (roleK (kidP (pdOf pm) d j)) r) := by
    intro j r hr
    unfold kidX inB
    by_cases h : 0 ≤ d.kd j ∧ d.kd j < i
    · rw [if_pos h, decide_eq_true h.1, decide_eq_true h.2]
      have : roleO (some (pxOf pm pk (d.kd j).toNat)) = roleK (kidP (pdOf pm) d j) := by
        show roleP (pm (d.kd j).toNat).toPD = _
        unfold roleP; rw [if_pos (hs _ (by omega))]; rfl
      rw [this]; rfl
    · rw [if_neg h]
      have : (decide (0 ≤ d.kd j) && decide (d.kd j < (i : Int))) = false := by
        rw [← Bool.not_eq_true]; simp; omega
      rw [this]; exact hasR_zero r hr
  exact ⟨fun j => by rw [go j 1 (by simp), role_1], fun j => by rw [go j 2 (by simp), role_2], fun j => by rw [go j 4 (by simp), role_4], fun j => by rw [go j 8 (by simp), role_8], fun j => by rw [go j 16 (by simp), role_16], fun j => by rw [go j 32 (by simp), role_32], fun j => by rw [go j 64 (by simp), role_64], fun j => by rw [go j 128 (by simp), role_128], fun j => by rw [go j 256 (by simp), role_256], fun j => by rw [go j 512 (by simp), role_512]⟩
theorem allB_and (f g : Nat → Bool) : ∀ n i, allB (fun j => f j && g j) i n = (allB f i n && allB g i n)
  | 0, _ => rfl
  | n + 1, i => by
    simp only [allB]
    rw [allB_and f g n (i + 1)]
    cases f i <;> cases g i <;> cases allB f (i + 1) n <;> cases allB g (i + 1) n <;> rfl
theorem allB_shift (f : Nat → Bool) : ∀ n i t, allB (fun j => f (t + j)) i n = allB f (t + i) n
  | 0, _, _ => rfl
  | n + 1, i, t => by
    simp only [allB]
    rw [allB_shift f n (i + 1) t]; rfl
theorem allB_parts (f : Nat → Bool) : ∀ a b i, allB f i (a + b) = (allB f i a && allB f (i + a) b)
  | 0, b, i => by simp [allB]
  | a + 1, b, i => by
    rw [show a + 1 + b = (a + b) + 1 by omega]
    simp only [allB]
    rw [allB_parts f a b (i + 1), show i + 1 + a = i + (a + 1) by omega, Bool.and_assoc]
theorem kidsIn_eq (d : PD) (i : Nat) : kidsIn d i = allB (inB d i) 0 d.nk := rfl
theorem uses_bare (d : PD) (o n t m : Bool) : usesP d o n false t m = bareP d o n t m := rfl
theorem fzero_zero : fzero 0 = true := by decide
theorem uses_flt (d : PD) : usesP d false false true false false = bareP { d with flt := 0 } false false false false := by
  unfold usesP bareP
  simp only [fzero_zero]; rfl
theorem decl_eq (d : PD) (a b : Nat) : declP d a b = (bareP d false false false true && namedP d a b) := by
  unfold declP namedP
  rw [uses_bare]
  have e1 : decide ((a : Int) ≤ d.nn) = decide (a ≤ d.nn) := by simp
  have e2 : decide ((d.nn : Int) ≤ b) = decide (d.nn ≤ b) := by simp
  rw [e1, e2, Bool.and_assoc]
theorem kids0 {pd : Nat → PD} {d : PD} {i : Nat} {q : Nat → Option PX} (_h : Kin pd d i q) : kidsR [] d.nk q = decide (d.nk = 0) := by
  unfold kidsR
  by_cases e : d.nk = 0
  · rw [e]; rfl
  · rw [decide_eq_false e, beq_false_of_ne (show (d.nk : Int) ≠ ((([] : List Int).length : Nat) : Int) by simp; omega)]; rfl
theorem kids_8 {pd : Nat → PD} {d : PD} {i : Nat} {q : Nat → Option PX} (h : Kin pd d i q) : kidsR [8] d.nk q = (decide (d.nk = 1) && (allB (inB d i) 0 d.nk && (cls8 (kidP pd d 0)))) := by
  by_cases e : d.nk = 1
  · have e0 : kidsR [8] d.nk q = (hasR (roleO (q 0)) 8) := by rw [e]; unfold kidsR; simp [allB, classF]
    rw [e0, h.h8 0, e]
    simp only [allB, decide_true]
    generalize inB d i 0 = a0
    generalize cls8 (kidP pd d 0) = b0
    revert a0 b0
    decide
  · rw [decide_eq_false e]
    unfold kidsR
    rw [beq_false_of_ne (show (d.nk : Int) ≠ (([8] : List Int).length : Nat) by simp; omega)]; rfl
theorem kids_256 {pd : Nat → PD} {d : PD} {i : Nat} {q : Nat → Option PX} (h : Kin pd d i q) : kidsR [256] d.nk q = (decide (d.nk = 1) && (allB (inB d i) 0 d.nk && (cls256 (kidP pd d 0)))) := by
  by_cases e : d.nk = 1
  · have e0 : kidsR [256] d.nk q = (hasR (roleO (q 0)) 256) := by rw [e]; unfold kidsR; simp [allB, classF]
    rw [e0, h.h256 0, e]
    simp only [allB, decide_true]
    generalize inB d i 0 = a0
    generalize cls256 (kidP pd d 0) = b0
    revert a0 b0
    decide
  · rw [decide_eq_false e]
    unfold kidsR
    rw [beq_false_of_ne (show (d.nk : Int) ≠ (([256] : List Int).length : Nat) by simp; omega)]; rfl
theorem kids_32 {pd : Nat → PD} {d : PD} {i : Nat} {q : Nat → Option PX} (h : Kin pd d i q) : kidsR [32] d.nk q = (decide (d.nk = 1) && (allB (inB d i) 0 d.nk && (cls32 (kidP pd d 0)))) := by
  by_cases e : d.nk = 1
  · have e0 : kidsR [32] d.nk q = (hasR (roleO (q 0)) 32) := by rw [e]; unfold kidsR; simp [allB, classF]
    rw [e0, h.h32 0, e]
    simp only [allB, decide_true]
    generalize inB d i 0 = a0
    generalize cls32 (kidP pd d 0) = b0
    revert a0 b0
    decide
  · rw [decide_eq_false e]
    unfold kidsR
    rw [beq_false_of_ne (show (d.nk : Int) ≠ (([32] : List Int).length : Nat) by simp; omega)]; rfl
theorem kids_8_2 {pd : Nat → PD} {d : PD} {i : Nat} {q : Nat → Option PX} (h : Kin pd d i q) : kidsR [8, 2] d.nk q = (decide (d.nk = 2) && (allB (inB d i) 0 d.nk && (cls8 (kidP pd d 0) && cls2 (kidP pd d 1)))) := by
  by_cases e : d.nk = 2
  · have e0 : kidsR [8, 2] d.nk q = (hasR (roleO (q 0)) 8 && (hasR (roleO (q 1)) 2)) := by rw [e]; unfold kidsR; simp [allB, classF]
    rw [e0, h.h8 0, h.h2 1, e]
    simp only [allB, decide_true]
    generalize inB d i 0 = a0
    generalize inB d i 1 = a1
    generalize cls8 (kidP pd d 0) = b0
    generalize cls2 (kidP pd d 1) = b1
    revert a0 b0 a1 b1
    decide
  · rw [decide_eq_false e]
    unfold kidsR
    rw [beq_false_of_ne (show (d.nk : Int) ≠ (([8, 2] : List Int).length : Nat) by simp; omega)]; rfl
theorem kids_8_2_4 {pd : Nat → PD} {d : PD} {i : Nat} {q : Nat → Option PX} (h : Kin pd d i q) : kidsR [8, 2, 4] d.nk q = (decide (d.nk = 3) && (allB (inB d i) 0 d.nk && (cls8 (kidP pd d 0) && cls2 (kidP pd d 1) && cls4 (kidP pd d 2)))) := by
  by_cases e : d.nk = 3
  · have e0 : kidsR [8, 2, 4] d.nk q = (hasR (roleO (q 0)) 8 && (hasR (roleO (q 1)) 2 && (hasR (roleO (q 2)) 4))) := by rw [e]; unfold kidsR; simp [allB, classF]
    rw [e0, h.h8 0, h.h2 1, h.h4 2, e]
    simp only [allB, decide_true]
    generalize inB d i 0 = a0
    generalize inB d i 1 = a1
    generalize inB d i 2 = a2
    generalize cls8 (kidP pd d 0) = b0
    generalize cls2 (kidP pd d 1) = b1
    generalize cls4 (kidP pd d 2) = b2
    revert a0 b0 a1 b1 a2 b2
    decide
  · rw [decide_eq_false e]
    unfold kidsR
    rw [beq_false_of_ne (show (d.nk : Int) ≠ (([8, 2, 4] : List Int).length : Nat) by simp; omega)]; rfl
theorem kids_8_8_2 {pd : Nat → PD} {d : PD} {i : Nat} {q : Nat → Option PX} (h : Kin pd d i q) : kidsR [8, 8, 2] d.nk q = (decide (d.nk = 3) && (allB (inB d i) 0 d.nk && (cls8 (kidP pd d 0) && cls8 (kidP pd d 1) && cls2 (kidP pd d 2)))) := by
  by_cases e : d.nk = 3
  · have e0 : kidsR [8, 8, 2] d.nk q = (hasR (roleO (q 0)) 8 && (hasR (roleO (q 1)) 8 && (hasR (roleO (q 2)) 2))) := by rw [e]; unfold kidsR; simp [allB, classF]
    rw [e0, h.h8 0, h.h8 1, h.h2 2, e]
    simp only [allB, decide_true]
    generalize inB d i 0 = a0
    generalize inB d i 1 = a1
    generalize inB d i 2 = a2
    generalize cls8 (kidP pd d 0) = b0
    generalize cls8 (kidP pd d 1) = b1
    generalize cls2 (kidP pd d 2) = b2
    revert a0 b0 a1 b1 a2 b2
    decide
  · rw [decide_eq_false e]
    unfold kidsR
    rw [beq_false_of_ne (show (d.nk : Int) ≠ (([8, 8, 2] : List Int).length : Nat) by simp; omega)]; rfl
theorem kids_8_8_8_2 {pd : Nat → PD} {d : PD} {i : Nat} {q : Nat → Option PX} (h : Kin pd d i q) : kidsR [8, 8, 8, 2] d.nk q = (decide (d.nk = 4) && (allB (inB d i) 0 d.nk && (cls8 (kidP pd d 0) && cls8 (kidP pd d 1) && cls8 (kidP pd d 2) && cls2 (kidP pd d 3)))) := by
  by_cases e : d.nk = 4
  · have e0 : kidsR [8, 8, 8, 2] d.nk q = (hasR (roleO (q 0)) 8 && (hasR (roleO (q 1)) 8 && (hasR (roleO (q 2)) 8 && (hasR (roleO (q 3)) 2)))) := by rw [e]; unfold kidsR; simp [allB, classF]
    rw [e0, h.h8 0, h.h8 1, h.h8 2, h.h2 3, e]
    simp only [allB, decide_true]
    generalize inB d i 0 = a0
    generalize inB d i 1 = a1
    generalize inB d i 2 = a2
    generalize inB d i 3 = a3
    generalize cls8 (kidP pd d 0) = b0
    generalize cls8 (kidP pd d 1) = b1
    generalize cls8 (kidP pd d 2) = b2
    generalize cls2 (kidP pd d 3) = b3
    revert a0 b0 a1 b1 a2 b2 a3 b3
    decide
  · rw [decide_eq_false e]
    unfold kidsR
    rw [beq_false_of_ne (show (d.nk : Int) ≠ (([8, 8, 8, 2] : List Int).length : Nat) by simp; omega)]; rfl
theorem kids_2_2 {pd : Nat → PD} {d : PD} {i : Nat} {q : Nat → Option PX} (h : Kin pd d i q) : kidsR [2, 2] d.nk q = (decide (d.nk = 2) && (allB (inB d i) 0 d.nk && (cls2 (kidP pd d 0) && cls2 (kidP pd d 1)))) := by
  by_cases e : d.nk = 2
  · have e0 : kidsR [2, 2] d.nk q = (hasR (roleO (q 0)) 2 && (hasR (roleO (q 1)) 2)) := by rw [e]; unfold kidsR; simp [allB, classF]
    rw [e0, h.h2 0, h.h2 1, e]
    simp only [allB, decide_true]
    generalize inB d i 0 = a0
    generalize inB d i 1 = a1
    generalize cls2 (kidP pd d 0) = b0
    generalize cls2 (kidP pd d 1) = b1
    revert a0 b0 a1 b1
    decide
  · rw [decide_eq_false e]
    unfold kidsR
    rw [beq_false_of_ne (show (d.nk : Int) ≠ (([2, 2] : List Int).length : Nat) by simp; omega)]; rfl
theorem kids_8_8 {pd : Nat → PD} {d : PD} {i : Nat} {q : Nat → Option PX} (h : Kin pd d i q) : kidsR [8, 8] d.nk q = (decide (d.nk = 2) && (allB (inB d i) 0 d.nk && (cls8 (kidP pd d 0) && cls8 (kidP pd d 1)))) := by
  by_cases e : d.nk = 2
  · have e0 : kidsR [8, 8] d.nk q = (hasR (roleO (q 0)) 8 && (hasR (roleO (q 1)) 8)) := by rw [e]; unfold kidsR; simp [allB, classF]
    rw [e0, h.h8 0, h.h8 1, e]
    simp only [allB, decide_true]
    generalize inB d i 0 = a0
    generalize inB d i 1 = a1
    generalize cls8 (kidP pd d 0) = b0
    generalize cls8 (kidP pd d 1) = b1
    revert a0 b0 a1 b1
    decide
  · rw [decide_eq_false e]
    unfold kidsR
    rw [beq_false_of_ne (show (d.nk : Int) ≠ (([8, 8] : List Int).length : Nat) by simp; omega)]; rfl
theorem kids_16_8 {pd : Nat → PD} {d : PD} {i : Nat} {q : Nat → Option PX} (h : Kin pd d i q) : kidsR [16, 8] d.nk q = (decide (d.nk = 2) && (allB (inB d i) 0 d.nk && (cls16 (kidP pd d 0) && cls8 (kidP pd d 1)))) := by
  by_cases e : d.nk = 2
  · have e0 : kidsR [16, 8] d.nk q = (hasR (roleO (q 0)) 16 && (hasR (roleO (q 1)) 8)) := by rw [e]; unfold kidsR; simp [allB, classF]
    rw [e0, h.h16 0, h.h8 1, e]
    simp only [allB, decide_true]
    generalize inB d i 0 = a0
    generalize inB d i 1 = a1
    generalize cls16 (kidP pd d 0) = b0
    generalize cls8 (kidP pd d 1) = b1
    revert a0 b0 a1 b1
    decide
  · rw [decide_eq_false e]
    unfold kidsR
    rw [beq_false_of_ne (show (d.nk : Int) ≠ (([16, 8] : List Int).length : Nat) by simp; omega)]; rfl
theorem kids_16 {pd : Nat → PD} {d : PD} {i : Nat} {q : Nat → Option PX} (h : Kin pd d i q) : kidsR [16] d.nk q = (decide (d.nk = 1) && (allB (inB d i) 0 d.nk && (cls16 (kidP pd d 0)))) := by
  by_cases e : d.nk = 1
  · have e0 : kidsR [16] d.nk q = (hasR (roleO (q 0)) 16) := by rw [e]; unfold kidsR; simp [allB, classF]
    rw [e0, h.h16 0, e]
    simp only [allB, decide_true]
    generalize inB d i 0 = a0
    generalize cls16 (kidP pd d 0) = b0
    revert a0 b0
    decide
  · rw [decide_eq_false e]
    unfold kidsR
    rw [beq_false_of_ne (show (d.nk : Int) ≠ (([16] : List Int).length : Nat) by simp; omega)]; rfl
theorem kids_2 {pd : Nat → PD} {d : PD} {i : Nat} {q : Nat → Option PX} (h : Kin pd d i q) : kidsR [2] d.nk q = (decide (d.nk = 1) && (allB (inB d i) 0 d.nk && (cls2 (kidP pd d 0)))) := by
  by_cases e : d.nk = 1
  · have e0 : kidsR [2] d.nk q = (hasR (roleO (q 0)) 2) := by rw [e]; unfold kidsR; simp [allB, classF]
    rw [e0, h.h2 0, e]
    simp only [allB, decide_true]
    generalize inB d i 0 = a0
    generalize cls2 (kidP pd d 0) = b0
    revert a0 b0
    decide
  · rw [decide_eq_false e]
    unfold kidsR
    rw [beq_false_of_ne (show (d.nk : Int) ≠ (([2] : List Int).length : Nat) by simp; omega)]; rfl
theorem kids_64 {pd : Nat → PD} {d : PD} {i : Nat} {q : Nat → Option PX} (h : Kin pd d i q) : kidsR [64] d.nk q = (decide (d.nk = 1) && (allB (inB d i) 0 d.nk && (cls64 (kidP pd d 0)))) := by
  by_cases e : d.nk = 1
  · have e0 : kidsR [64] d.nk q = (hasR (roleO (q 0)) 64) := by rw [e]; unfold kidsR; simp [allB, classF]
    rw [e0, h.h64 0, e]
    simp only [allB, decide_true]
    generalize inB d i 0 = a0
    generalize cls64 (kidP pd d 0) = b0
    revert a0 b0
    decide
  · rw [decide_eq_false e]
    unfold kidsR
    rw [beq_false_of_ne (show (d.nk : Int) ≠ (([64] : List Int).length : Nat) by simp; omega)]; rfl
theorem stand_eq1 {pd : Nat → PD} {d : PD} {i : Nat} {q : Nat → Option PX} (h : Kin pd d i q) : standR 1 d.nk q = (allB (inB d i) 0 d.nk && allB (fun j => cls1 (kidP pd d j)) 0 d.nk) := by
  unfold standR; simp only [h.h1]; exact allB_and _ _ _ _
theorem stand_eq8 {pd : Nat → PD} {d : PD} {i : Nat} {q : Nat → Option PX} (h : Kin pd d i q) : standR 8 d.nk q = (allB (inB d i) 0 d.nk && allB (fun j => cls8 (kidP pd d j)) 0 d.nk) := by
  unfold standR; simp only [h.h8]; exact allB_and _ _ _ _
theorem stand_eq512 {pd : Nat → PD} {d : PD} {i : Nat} {q : Nat → Option PX} (h : Kin pd d i q) : standR 512 d.nk q = (allB (inB d i) 0 d.nk && allB (fun j => cls512 (kidP pd d j)) 0 d.nk) := by
  unfold standR; simp only [h.h512]; exact allB_and _ _ _ _
end Go.Proofs.Ytnokgdgikdgaeaa
