import Derived.Test.YtnokgdgikdgaeaaP22
import Derived.Test.YtnokgdgikdgaeaaP03
import Derived.Test.YtnokgdgikdgaeaaP10
import Derived.Test.YtnokgdgikdgaeaaP11
namespace Go.Proofs.Ytnokgdgikdgaeaa
open Go.RowKit
attribute [local go_sem] run_store_float

theorem ret_wrong {p : Int × Int} {c i : Int} (h : p = (c, i)) : Ending.returned (.agg #[.int .i64 c, .int .i64 i]) = Ending.returned (.agg #[.int .i64 p.1, .int .i64 p.2]) := by rw [h]

set_option maxRecDepth 100000 in
set_option maxHeartbeats 4000000 in
theorem specTree_good (l : Nat) (pm : Nat → PM) (pa : Option Addr) (pc : Nat) (w : World) (hl : l + 1 ≤ 3000) (hk : (pm l).kind = 1) (hs : ∀ i, i < l + 1 → (pm i).Slight) (ht : TM.At w ⟨l + 1, pm, pa, pc⟩) :
    Calls Try.prog 5 #[.agg #[.slice pa (l + 1 : Nat) pc]] w fun e w' => e = .returned (.agg #[.int .i64 (specT (pdOf pm) (l + 1)).1, .int .i64 (specT (pdOf pm) (l + 1)).2]) ∧ Onw w w' := by
  have fin : Hid (specT (pdOf pm) (l + 1) = after 2 (firstBad (fun i => nodeP (pdOf pm) (pdOf pm i) i) 0 (l + 1)) (after 3 (firstBad (fun i => !(sizesN (pdOf pm) (l + 1) i == 0)) 0 (l + 1))
      (bif sizesN (pdOf pm) (l + 1) l == ((l + 1 : Nat) : Int) then after 4 (firstBad (fun i => decide (depD (pdOf pm) (l + 1) (l + 1) i ≤ 100)) 0 (l + 1)) (0, 0) else (3, ((l + 1 : Nat) : Int) - 1)))) := by
    show _ = _
    unfold specT
    rw [decide_eq_true (show 0 < l + 1 by omega), decide_eq_true hl, show (pdOf pm (l + 1 - 1)).kind = 1 from hk]; rfl
  have HS : Hid _ := hs
  have HT : Hid _ := ht
  obtain ⟨b, off, hpa, hc⟩ := ht.1 (by show 0 < l + 1; omega)
  simp only at hpa
  subst hpa
  have p0 := (hc l (by show l < l + 1; omega)).c0
  simp only at p0
  rw [hk] at p0
  clear hc ht hs hk
  have zb := cell_lt p0
  have n0 : ((l : Int) + 1 == 0) = false := beq_false_of_ne (by omega)
  have n1 : decide (3000 < (l : Int) + 1) = false := decide_eq_false (by omega)
  go_enter Try.func5, Try.ntmps5
  go_wp2_with fail
  clear p0
  go_loopw [39] (fun x wr => ∃ i : Nat, i ≤ l + 1 ∧ x = .int .i64 i ∧ Onw w wr ∧ Blk wr w.heap.size 31 #[.slice (some ⟨b, off, none⟩) (l + 1) pc] ∧ Blk wr (w.heap.size + 1) 27 #[.int .i64 0, .int .i64 0] ∧ (∀ k, k < i → nodeP (pdOf pm) (pdOf pm k) k = true) ∧ firstBad (fun i => nodeP (pdOf pm) (pdOf pm i) i) 0 (l + 1) = firstBad (fun i => nodeP (pdOf pm) (pdOf pm i) i) i (l + 1 - i)) (fun x _ => l + 1 - (intOf x).toNat)
  case atStart =>
    refine ⟨0, Nat.zero_le _, rfl, (Onw.alloc _ _).trans (Onw.alloc _ _), (Blk.new _ _ _).onw (Onw.alloc _ _), ?_, fun k hk => absurd hk (Nat.not_lt_zero _), rfl⟩
    have := Blk.new (w.alloc (Obj.cells #[.slice (some ⟨b, off, none⟩) (l + 1) pc] 31)) 27 #[.int .i64 0, .int .i64 0]
    simpa only [World.size_alloc] using this
  case round =>
    obtain ⟨i, hi, rfl, ob, B1, B2, hok, hf⟩ := hrel
    have HF : Hid _ := hf
    have HO : Hid _ := hok
    clear hf hok
    by_cases hlt : i < l + 1
    · have x0 : wr.cell? ⟨w.heap.size, 0, none⟩ = some (.slice (some ⟨b, off, none⟩) (l + 1 : Nat) pc) := by rw [B1.cell]; rfl
      go_wp2_with fail
      refine (l6nodeok_any ⟨l + 1, pm, some ⟨b, off, none⟩, pc⟩ i _ (by dsimp only; omega) hlt (HS.out i hlt) (TM.At.onw ob HT.out)).mono ?_
      rintro e w1 ⟨rfl, O1⟩
      replace B1 := B1.onw O1
      replace B2 := B2.onw O1
      replace ob := ob.trans O1
      clear O1 x0
      obtain ⟨q, hq⟩ : ∃ q, nodeP (pdOf pm) (pm i).toPD i = q := ⟨_, rfl⟩
      dsimp only
      rw [hq]
      have HQ : Hid _ := hq
      clear hq
      have f2 := B2.free
      have y0 : w1.cell? ⟨w.heap.size + 1, 0, none⟩ = some (.int .i64 0) := by rw [B2.cell]; rfl
      have y1 : w1.cell? ⟨w.heap.size + 1, 1, none⟩ = some (.int .i64 0) := by rw [B2.cell]; rfl
      cases q
      · go_wp2_with fail
        exact bodyPost_ret (v := .agg #[.int .i64 2, .int .i64 i]) (by simp [results, Try.results5, go_sem, y0, y1]) rfl ⟨ret_wrong (by rw [fin.out, HF.out, firstBad_bad (f := fun i => nodeP (pdOf pm) (pdOf pm i) i) hlt HQ.out]; rfl), below_set (below_set ob (by omega) _) (by omega) _⟩
      · go_wp2_with fail
        go_roundw
        case rel =>
          refine ⟨i + 1, by omega, by go_num, ob, B1, B2, fun k hk => ?_, by rw [HF.out, firstBad_ok (f := fun i => nodeP (pdOf pm) (pdOf pm i) i) hlt HQ.out]⟩
          by_cases e : k = i
          · subst e; exact HQ.out
          · exact HO.out k (by omega)
        case measure => simp [intOf] <;> omega
    · have hE : Hid (firstBad (fun i => nodeP (pdOf pm) (pdOf pm i) i) 0 (l + 1) = none) := by show _ = _; rw [HF.out, firstBad_end hlt]
      have HK : Hid (∀ i, i < l + 1 → ∀ j, j < (pm i).nk → 0 ≤ (pm i).kd j ∧ (pm i).kd j < i) := fun i' hi' => nodeP_kids (HO.out i' (by omega))
      clear HF HO
      obtain rfl : i = l + 1 := by omega
      clear hlt hi
      have x0 : wr.cell? ⟨w.heap.size, 0, none⟩ = some (.slice (some ⟨b, off, none⟩) (l + 1 : Nat) pc) := by rw [B1.cell]; rfl
      go_wp2_with fail
      refine (l6sizes_any ⟨l + 1, pm, some ⟨b, off, none⟩, pc⟩ _ (by dsimp only; omega) (by dsimp only; omega) (fun i' hi' => (HS.out i' hi').1) HK.out (TM.At.onw ob HT.out)).mono ?_
      rintro e w1 ⟨sa, rfl, O1, hI, hF⟩
      replace B1 := B1.onw O1
      replace B2 := B2.onw O1
      replace ob := ob.trans O1
      clear O1 x0
      dsimp only at hI
      obtain ⟨g, o, hsa, hz⟩ := hI (by omega)
      subst hsa
      have HZ : Hid _ := hz
      have HF : Hid _ := hF
      clear hz hF hI
      obtain ⟨w0, hw0⟩ : ∃ x, x = w1 := ⟨_, rfl⟩
      subst hw0
      obtain ⟨wA, hwA⟩ : ∃ x, x = wr := ⟨_, rfl⟩
      subst hwA
      go_wp2_with fail
      go_loopw [53] (fun x wr => ∃ i : Nat, i ≤ l + 1 ∧ x = .int .i64 i ∧ Onw w0 wr ∧ firstBad (fun i => !(sizesN (pdOf pm) (l + 1) i == 0)) 0 (l + 1) = firstBad (fun i => !(sizesN (pdOf pm) (l + 1) i == 0)) i (l + 1 - i)) (fun x _ => l + 1 - (intOf x).toNat)
      case atStart => exact ⟨0, Nat.zero_le _, rfl, Onw.refl _, rfl⟩
      case round =>
        obtain ⟨i, hi, rfl, o2, hf⟩ := hrel
        have HB : Hid _ := hf
        clear hf
        replace B1 := B1.onw o2
        replace B2 := B2.onw o2
        replace ob := ob.trans o2
        have f2 := B2.free
        have y0 : wr.cell? ⟨w.heap.size + 1, 0, none⟩ = some (.int .i64 0) := by rw [B2.cell]; rfl
        have y1 : wr.cell? ⟨w.heap.size + 1, 1, none⟩ = some (.int .i64 0) := by rw [B2.cell]; rfl
        by_cases hlt : i < l + 1
        · have s0 := cell_onw o2 (HZ.out i hlt)
          have zs := cell_lt s0
          obtain ⟨sv, hsv⟩ : ∃ sv, sizesN (pdOf pm) (l + 1) i = sv := ⟨_, rfl⟩
          rw [hsv] at s0
          have HV : Hid _ := hsv
          clear hsv
          by_cases e : sv = 0
          · subst e
            go_wp2_with fail
            exact bodyPost_ret (v := .agg #[.int .i64 3, .int .i64 i]) (by simp [results, Try.results5, go_sem, y0, y1]) rfl ⟨ret_wrong (by rw [fin.out, hE.out, HB.out, firstBad_bad (f := fun i => !(sizesN (pdOf pm) (l + 1) i == 0)) hlt (by rw [HV.out]; rfl)]; rfl), below_set (below_set ob (by omega) _) (by omega) _⟩
          · go_wp2_with fail
            go_roundw
            case rel => exact ⟨i + 1, by omega, by go_num, o2, by rw [HB.out, firstBad_ok (f := fun i => !(sizesN (pdOf pm) (l + 1) i == 0)) hlt (by rw [HV.out, beq_false_of_ne e]; rfl)]⟩
            case measure => simp [intOf] <;> omega
        · have hE3 : Hid (firstBad (fun i => !(sizesN (pdOf pm) (l + 1) i == 0)) 0 (l + 1) = none) := by show _ = _; rw [HB.out, firstBad_end hlt]
          clear HB
          obtain rfl : i = l + 1 := by omega
          clear hlt hi
          have s0 := cell_onw o2 (HZ.out l (by omega))
          have zs := cell_lt s0
          obtain ⟨sv, hsv⟩ : ∃ sv, sizesN (pdOf pm) (l + 1) l = sv := ⟨_, rfl⟩
          rw [hsv] at s0
          have HV : Hid _ := hsv
          clear hsv
          by_cases e : sv = (l : Int) + 1
          · subst e
            have x0 : wr.cell? ⟨w.heap.size, 0, none⟩ = some (.slice (some ⟨b, off, none⟩) (l + 1 : Nat) pc) := by rw [B1.cell]; rfl
            have z0 := cell_lt x0
            have hmk := run_make_ints (l + 1) (by omega)
            simp only [show (((l + 1 : Nat)) : Int) = (l : Int) + 1 from rfl] at hmk
            go_wp2_with fail
            clear hmk s0 y0 y1 f2
            obtain ⟨gd, hgd⟩ : ∃ gd, wr.heap.size = gd := ⟨_, rfl⟩
            have zr := B2.lt
            have Bd := Blk.new wr 3 (madeCells #[.int .i64 0] (l + 1))
            have O2 := Onw.alloc wr (Obj.cells (madeCells #[.int .i64 0] (l + 1)) 3)
            rw [hgd] at z0 zr Bd ⊢
            have G2 : SzAt w _ (some ⟨b, off, none⟩) (l + 1) pc gd _ := ⟨ob.trans O2, B1.onw O2, Bd, z0⟩
            replace B2 := B2.onw O2
            clear x0 Bd
            generalize wr.alloc (Obj.cells (madeCells #[.int .i64 0] (l + 1)) 3) = w2 at *
            have A0 : Arr (madeCells #[.int .i64 0] (l + 1)) (l + 1) (depD (pdOf pm) (l + 1) 0) := ⟨size_madeCells _ _, fun k hk => made_int _ k hk⟩
            generalize madeCells #[.int .i64 0] (l + 1) = c0 at G2 A0
            go_loopw [8] (fun x wr2 => ∃ (s : Nat) (c : Array Value), s ≤ l + 1 ∧ x = .int .i64 ((l : Int) - s) ∧ SzAt w wr2 (some ⟨b, off, none⟩) (l + 1) pc gd c ∧ Blk wr2 (w.heap.size + 1) 27 #[.int .i64 0, .int .i64 0] ∧ Arr c (l + 1) (depD (pdOf pm) (l + 1) s)) (fun x _ => (intOf x + 1).toNat)
            case atStart => exact ⟨0, c0, Nat.zero_le _, by simp, G2, B2, A0⟩
            case round =>
              clear G2 B2 A0 O2
              obtain ⟨s, c, hs, hx, G, B2, A⟩ := hrel
              have HG : Hid _ := G
              have HA : Hid _ := A
              have HB2 : Hid _ := B2
              clear G A B2
              by_cases hsl : s < l + 1
              · obtain ⟨i, hi⟩ : ∃ i, l = i + s := ⟨l - s, by omega⟩
                rw [show (l : Int) - (s : Int) = (i : Int) by omega] at hx
                subst hx
                have hil : i < l + 1 := by omega
                have hd : Hid (depD (pdOf pm) (l + 1) (s + 1) = dep1 (depD (pdOf pm) (l + 1) s) (pm i).kd i (pm i).nk) := by
                  show _ = _
                  rw [depD, show l + 1 - 1 - s = i by omega]; rfl
                have HI : Hid _ := hi
                clear hi
                obtain ⟨b', off', hpa, hcc⟩ := (PartsAt.onw HG.out.onw HT.out).1 (by omega)
                cases hpa
                have p9 := (hcc i hil).c9
                clear hcc
                have hI := (HT.out.2 i hil).2
                have hkn := (HS.out i hil).1
                have zb' := cell_lt p9
                have x0 : wr.cell? ⟨w.heap.size, 0, none⟩ = some (.slice (some ⟨b, off, none⟩) (l + 1 : Nat) pc) := by rw [HG.out.t0.cell]; rfl
                obtain ⟨KA, hKA⟩ : ∃ KA, (pm i).ka = KA := ⟨_, rfl⟩
                rw [hKA] at p9 hI
                clear hKA
                have ii : (i : Int) < (l : Int) + 1 := by omega
                go_wp2_with fail
                clear p9 x0
                obtain ⟨wB, hwB⟩ : ∃ x, x = wr := ⟨_, rfl⟩
                subst hwB
                go_loopw [95] (fun x wr2 => ∃ (j : Nat) (c : Array Value), j ≤ (pm i).nk ∧ x = .int .i64 j ∧ SzAt w wr2 (some ⟨b, off, none⟩) (l + 1) pc gd c ∧ Blk wr2 (w.heap.size + 1) 27 #[.int .i64 0, .int .i64 0] ∧ Arr c (l + 1) (dep1 (depD (pdOf pm) (l + 1) s) (pm i).kd i j)) (fun x _ => (pm i).nk - (intOf x).toNat)
                case atStart => exact ⟨0, c, Nat.zero_le _, rfl, HG.out, HB2.out, HA.out⟩
                case round =>
                  obtain ⟨j, c', hj, rfl, G, B2, A⟩ := hrel
                  have HG3 : Hid _ := G
                  have HA3 : Hid _ := A
                  have HB3 : Hid _ := B2
                  clear G A B2
                  by_cases hjt : j < (pm i).nk
                  · obtain ⟨kb, ko, hka, hcc⟩ := hI.onw HG3.out.onw (by omega)
                    subst hka
                    have k0 := hcc j hjt
                    clear hcc
                    obtain ⟨j0, j1⟩ := HK.out i hil j hjt
                    obtain ⟨k, hk⟩ := Int.eq_ofNat_of_zero_le j0
                    have HKD : Hid _ := hk
                    rw [hk] at k0 j1
                    clear hk j0
                    have zk := cell_lt k0
                    obtain ⟨v, hv⟩ : ∃ v, dep1 (depD (pdOf pm) (l + 1) s) (pm i).kd i j i = v := ⟨_, rfl⟩
                    have hb := dep1_le (depD_le (pd := pdOf pm) (np := l + 1) (fun i hi j hj => (HK.out i hi j hj).2) s hs) j (fun q hq => (HK.out i hil q (by omega)).2) i
                    rw [hv] at hb
                    obtain ⟨hb0, hb1⟩ := hb
                    have s0 : wr.cell? ⟨gd, i, none⟩ = some (.int .i64 v) := by
                      rw [HG3.out.b1.cell, ← hv]; exact HA3.out.2 i hil
                    have HV2 : Hid _ := hv
                    clear hv
                    have kl : (k : Int) < (l : Int) + 1 := by omega
                    have f1 := HG3.out.b1.free
                    obtain ⟨v0, gx⟩ := HG3.out.b1.some (j := k) (by rw [HA3.out.1]; omega)
                    go_wp2_with fail
                    go_roundw
                    case rel =>
                      refine ⟨j + 1, _, by omega, by go_num, HG3.out.set k _, Blk.kept (kept_setCell _ gd k _) (by omega) HB3.out, Arr.set HA3.out k _ fun m _ => ?_⟩
                      simp only [dep1]
                      rw [HKD.out, HV2.out]
                      by_cases e : m = k
                      · rw [if_pos e, if_pos (by omega)]
                      · rw [if_neg e, if_neg (by omega)]
                    case measure => simp [intOf] <;> omega
                  · obtain rfl : j = (pm i).nk := by omega
                    go_wp2_with fail
                    go_roundw
                    case rel => exact ⟨s + 1, c', by omega, by have := HI.out; go_num, HG3.out, HB3.out, by rw [hd.out]; exact HA3.out⟩
                    case measure => simp [intOf] <;> omega
              · obtain rfl : s = l + 1 := by omega
                subst hx
                go_wp2_with fail
                have hh : Hid (specT (pdOf pm) (l + 1) = after 4 (firstBad (fun i => decide (depD (pdOf pm) (l + 1) (l + 1) i ≤ 100)) 0 (l + 1)) (0, 0)) := by
                  show _ = _
                  rw [fin.out, hE.out, hE3.out, HV.out, beq_iff_eq.mpr (show (l : Int) + 1 = ((l + 1 : Nat) : Int) from rfl)]; rfl
                obtain ⟨wB, hwB⟩ : ∃ x, x = wr := ⟨_, rfl⟩
                subst hwB
                go_loopw [110] (fun x wr2 => ∃ i : Nat, i ≤ l + 1 ∧ x = .int .i64 i ∧ Onw wB wr2 ∧ firstBad (fun i => decide (depD (pdOf pm) (l + 1) (l + 1) i ≤ 100)) 0 (l + 1) = firstBad (fun i => decide (depD (pdOf pm) (l + 1) (l + 1) i ≤ 100)) i (l + 1 - i)) (fun x _ => l + 1 - (intOf x).toNat)
                case atStart => exact ⟨0, Nat.zero_le _, rfl, Onw.refl _, rfl⟩
                case round =>
                  obtain ⟨i, hi, rfl, o4, hf⟩ := hrel
                  have HB : Hid _ := hf
                  clear hf
                  have B2 := Blk.onw o4 HB2.out
                  have ob4 := HG.out.onw.trans o4
                  have f2 := B2.free
                  have y0 : wr.cell? ⟨w.heap.size + 1, 0, none⟩ = some (.int .i64 0) := by rw [B2.cell]; rfl
                  have y1 : wr.cell? ⟨w.heap.size + 1, 1, none⟩ = some (.int .i64 0) := by rw [B2.cell]; rfl
                  by_cases hlt : i < l + 1
                  · obtain ⟨v, hv⟩ : ∃ v, depD (pdOf pm) (l + 1) (l + 1) i = v := ⟨_, rfl⟩
                    have s0 : wr.cell? ⟨gd, i, none⟩ = some (.int .i64 v) := by
                      rw [(Blk.onw o4 HG.out.b1).cell, ← hv]; exact HA.out.2 i hlt
                    have zs := cell_lt s0
                    have HV2 : Hid _ := hv
                    clear hv
                    by_cases e : v ≤ 100
                    · go_wp2_with fail
                      go_roundw
                      case rel => exact ⟨i + 1, by omega, by go_num, o4, by rw [HB.out, firstBad_ok (f := (fun i => decide (depD (pdOf pm) (l + 1) (l + 1) i ≤ 100))) hlt (by rw [HV2.out]; exact decide_eq_true (by omega))]⟩
                      case measure => simp [intOf] <;> omega
                    · go_wp2_with fail
                      exact bodyPost_ret (v := .agg #[.int .i64 4, .int .i64 i]) (by simp [results, Try.results5, go_sem, y0, y1]) rfl ⟨ret_wrong (by rw [hh.out, HB.out, firstBad_bad (f := (fun i => decide (depD (pdOf pm) (l + 1) (l + 1) i ≤ 100))) hlt (by rw [HV2.out]; exact decide_eq_false (by omega))]; rfl), below_set (below_set ob4 (by omega) _) (by omega) _⟩
                  · obtain rfl : i = l + 1 := by omega
                    go_wp2_with fail
                    exact bodyPost_ret (v := .agg #[.int .i64 0, .int .i64 0]) (by simp [results, Try.results5, go_sem, y0, y1]) rfl ⟨ret_wrong (by rw [hh.out, HB.out, firstBad_end hlt]; rfl), by first | exact below_set (below_set ob4 (by omega) _) (by omega) _ | exact ob4⟩
          · go_wp2_with fail
            exact bodyPost_ret (v := .agg #[.int .i64 3, .int .i64 l]) (by simp [results, Try.results5, go_sem, y0, y1]) rfl ⟨ret_wrong (by rw [fin.out, hE.out, hE3.out, HV.out, beq_false_of_ne (show sv ≠ ((l + 1 : Nat) : Int) by omega), show (l : Int) = ((l + 1 : Nat) : Int) - 1 by omega]; rfl), below_set (below_set ob (by omega) _) (by omega) _⟩
end Go.Proofs.Ytnokgdgikdgaeaa

namespace Go.Proofs.Ytnokgdgikdgaeaa
open Go.RowKit
attribute [local go_sem] run_store_float

/-- Does part i fit its row, as the program asks it? -/
def rowI (pm : Nat → PM) (pk : Nat → Option Addr) (i : Nat) : Bool :=
  placeP (pm i).toPD && (stB (pm i).toPD (kidX (pm i).toPD (pxOf pm pk) i) || (exB (pm i).toPD (kidX (pm i).toPD (pxOf pm pk) i) || enB (pm i).toPD (kidX (pm i).toPD (pxOf pm pk) i)))
def optI : Option Nat → Int
  | some n => n
  | none => -1

set_option maxRecDepth 100000 in
set_option maxHeartbeats 4000000 in
theorem firstOffRow_any (np lo ab : Nat) (pm : Nat → PM) (pk : Nat → Option Addr) (pa : Option Addr) (w : World) (hn : np ≤ 1048576) (hs : ∀ i, i < np → (pm i).Slight) (ha : PartsAt w pa np pm) (hP : PiecesAt w lo ab np pm pk) :
    Calls Try.prog 16 #[.slice (some ⟨ab, 0, none⟩) np np] w fun e w' => e = .returned (.int .i64 (optI (firstBad (rowI pm pk) 0 np))) ∧ Onw w w' := by
  have HA : Hid _ := ha
  have HP : Hid _ := hP
  have HS : Hid _ := hs
  clear ha hP hs
  go_enter Try.func16, Try.ntmps16
  go_wp2_with fail
  go_loopw [7] (fun i wr => ∃ k : Nat, k ≤ np ∧ i = .int .i64 k ∧ Onw w wr ∧ firstBad (rowI pm pk) 0 np = firstBad (rowI pm pk) k (np - k)) (fun i _ => np - (intOf i).toNat)
  case atStart => exact ⟨0, Nat.zero_le _, rfl, Onw.refl _, rfl⟩
  case round =>
    obtain ⟨k, hk, rfl, ob, hq⟩ := hrel
    have HQ : Hid _ := hq
    clear hq
    by_cases hlt : k < np
    · obtain ⟨h1, hV, _⟩ := PiecesAt.onw ob HP.out k hlt
      have c0 : wr.cell? ⟨ab, k, none⟩ = some (.iface (ptT (pm k).toPD) (.agg #[.int .i64 (k : Nat), .int .i64 (pm k).kind, .int .i64 (pm k).frm, .int .i64 (pm k).tto, .int .i64 (pm k).line, .int .i64 (pm k).op, .int .i64 (pm k).num, .float .f64 (pm k).flt, .string (pm k).text, .slice (pm k).na (pm k).nn (pm k).nc, .slice (pm k).ka (pm k).nk (pm k).kc, .slice (pk k) (knP (pm k).toPD) (knP (pm k).toPD)])) := h1
      have hz : Hid (∀ i, i < (pm k).nn → ((pm k).nm i).size ≤ 1048576) := (HS.out k hlt).2.2.2
      have htx : Hid ((pm k).text.size ≤ 1048576) := (HS.out k hlt).2.2.1
      have hM : Hid (StrsAt wr (pm k).na (pm k).nn (pm k).nm) := ((PartsAt.onw ob HA.out).2 k hlt).1
      have HV : Hid _ := hV
      have zb := cell_lt c0
      clear h1 hV
      have bad : Hid (rowI pm pk k = false → firstBad (rowI pm pk) 0 np = some k) := fun h => by rw [HQ.out, firstBad_bad hlt h]
      have good : Hid (rowI pm pk k = true → firstBad (rowI pm pk) 0 np = firstBad (rowI pm pk) (k + 1) (np - (k + 1))) := fun h => by rw [HQ.out, firstBad_ok hlt h]
      have E : Hid (rowI pm pk k = (placeP (pm k).toPD && (stB (pm k).toPD (kidX (pm k).toPD (pxOf pm pk) k) || (exB (pm k).toPD (kidX (pm k).toPD (pxOf pm pk) k) || enB (pm k).toPD (kidX (pm k).toPD (pxOf pm pk) k))))) := rfl
      go_wp2_with fail
      refine (placeFits_any (pm k) k (pk k) _ _ _).mono ?_
      rintro e w1 ⟨rfl, b1⟩
      cases x1 : placeP (pm k).toPD
      · go_wp2_with fail
        go_ret
        exact ⟨ret_int (by rw [bad.out (by rw [E.out, x1]; rfl)]; rfl), ob.trans b1⟩
      · go_wp2_with fail
        refine (statementFits_any (pm k) k (pk k) (kidX (pm k).toPD (pxOf pm pk) k) _ (ValsAt.onw b1 HV.out) hz.out htx.out (StrsAt.onw b1 hM.out)).mono ?_
        rintro e w2 ⟨rfl, b2⟩
        replace b2 := b1.trans b2
        cases x2 : stB (pm k).toPD (kidX (pm k).toPD (pxOf pm pk) k)
        · go_wp2_with fail
          refine (expressionFits_any (pm k) k (pk k) (kidX (pm k).toPD (pxOf pm pk) k) _ (ValsAt.onw b2 HV.out) hz.out htx.out (StrsAt.onw b2 hM.out)).mono ?_
          rintro e w3 ⟨rfl, b3⟩
          replace b3 := b2.trans b3
          cases x3 : exB (pm k).toPD (kidX (pm k).toPD (pxOf pm pk) k)
          · go_wp2_with fail
            refine (entryFits_any (pm k) k (pk k) (kidX (pm k).toPD (pxOf pm pk) k) _ (ValsAt.onw b3 HV.out) hz.out htx.out (StrsAt.onw b3 hM.out)).mono ?_
            rintro e w4 ⟨rfl, b4⟩
            replace b4 := b3.trans b4
            cases x4 : enB (pm k).toPD (kidX (pm k).toPD (pxOf pm pk) k)
            · go_wp2_with fail
              go_ret
              exact ⟨ret_int (by rw [bad.out (by rw [E.out, x1, x2, x3, x4]; rfl)]; rfl), ob.trans b4⟩
            · go_wp2_with fail
              go_roundw
              case rel => exact ⟨k + 1, by omega, by go_num, ob.trans b4, good.out (by rw [E.out, x1, x2, x3, x4]; rfl)⟩
              case measure => simp [intOf]; omega
          · go_wp2_with fail
            go_roundw
            case rel => exact ⟨k + 1, by omega, by go_num, ob.trans b3, good.out (by rw [E.out, x1, x2, x3]; rfl)⟩
            case measure => simp [intOf]; omega
        · go_wp2_with fail
          go_roundw
          case rel => exact ⟨k + 1, by omega, by go_num, ob.trans b2, good.out (by rw [E.out, x1, x2]; rfl)⟩
          case measure => simp [intOf]; omega
    · go_wp2_with fail
      go_ret
      exact ⟨ret_int (by rw [HQ.out, firstBad_end hlt]; rfl), ob⟩
end Go.Proofs.Ytnokgdgikdgaeaa

namespace Go.Proofs.Ytnokgdgikdgaeaa
open Go.RowKit
attribute [local go_sem] run_store_float

/-- The kids from the last to the first, each just ahead of where the one behind it begins: where they begin. -/
def downB (B : Nat → Int) (kd : Nat → Int) : Nat → Int → Option Int
  | 0, a => some a
  | j + 1, a => bif kd j == a - 1 then downB B kd j (B (kd j).toNat) else none
def begN (pd : Nat → PD) : Nat → Nat → Int
  | 0 => fun _ => 0
  | i + 1 => fun k => if k = i then (downB (begN pd i) (pd i).kd (pd i).nk i).getD 0 else begN pd i k
def okB (pd : Nat → PD) (i : Nat) : Bool := (downB (begN pd i) (pd i).kd (pd i).nk i).isSome
def orderI (pd : Nat → PD) (np : Nat) : Option Nat := match firstBad (okB pd) 0 np with
  | some n => some n
  | none => bif begN pd np (np - 1) == 0 then none else some (np - 1)
theorem downB_le {B kd : Nat → Int} (hB : ∀ k : Nat, 0 ≤ B k ∧ B k ≤ k) : ∀ (j : Nat) (a r : Int), (∀ q, q < j → 0 ≤ kd q) → 0 ≤ a → downB B kd j a = some r → 0 ≤ r ∧ r ≤ a
  | 0, a, r, _, h0, h => by simp only [downB, Option.some.injEq] at h; omega
  | j + 1, a, r, hk, h0, h => by
    unfold downB at h
    cases hc : (kd j == a - 1)
    · rw [hc] at h; simp at h
    · rw [hc] at h
      simp only [cond_true] at h
      have k0 := hk j (by omega)
      have s0 := hB (kd j).toNat
      simp only [beq_iff_eq] at hc
      have := downB_le hB j _ r (fun q hq => hk q (by omega)) (by omega) h
      omega
theorem begN_le {pd : Nat → PD} {np : Nat} (hks : ∀ i, i < np → ∀ j, j < (pd i).nk → 0 ≤ (pd i).kd j) : ∀ i, i ≤ np → ∀ k : Nat, 0 ≤ begN pd i k ∧ begN pd i k ≤ k
  | 0, _, k => by simp only [begN]; omega
  | i + 1, hi, k => by
    have ih := begN_le hks i (by omega)
    simp only [begN]
    by_cases e : k = i
    · rw [if_pos e]
      cases hd : downB (begN pd i) (pd i).kd (pd i).nk i
      · simp only [Option.getD_none]; omega
      · have := downB_le ih _ _ _ (hks i (by omega)) (by omega) hd
        simp only [Option.getD_some]; omega
    · rw [if_neg e]; exact ih k
theorem downB_step {B kd : Nat → Int} {q k : Nat} {x : Int} (h : kd q = (k : Int)) (e : (k : Int) = x - 1) : downB B kd (q + 1) x = downB B kd q (B k) := by
  rw [downB, h, beq_iff_eq.mpr e]; rfl
theorem downB_off {B kd : Nat → Int} {q k : Nat} {x : Int} (h : kd q = (k : Int)) (e : ¬ (k : Int) = x - 1) : downB B kd (q + 1) x = none := by
  rw [downB, h, beq_false_of_ne e]; rfl

set_option maxRecDepth 100000 in
set_option maxHeartbeats 4000000 in
theorem firstOutOfOrder_any (l lo ab : Nat) (pm : Nat → PM) (pk : Nat → Option Addr) (w : World) (hn : l + 1 ≤ 1048576) (hsl : ∀ i, i < l + 1 → slimP (pm i).toPD) (hks : ∀ i, i < l + 1 → ∀ j, j < (pm i).nk → 0 ≤ (pm i).kd j ∧ (pm i).kd j < i) (hP : PiecesAt w lo ab (l + 1) pm pk) :
    Calls Try.prog 17 #[.slice (some ⟨ab, 0, none⟩) (l + 1 : Nat) (l + 1 : Nat)] w fun e w' => e = .returned (.int .i64 (optI (orderI (pdOf pm) (l + 1)))) ∧ Onw w w' := by
  have HP : Hid _ := hP
  have HSL : Hid _ := hsl
  have HKS : Hid _ := hks
  have HB : Hid _ := begN_le (pd := pdOf pm) (np := l + 1) fun i hi j hj => (hks i hi j hj).1
  clear hP hsl hks
  have hmk := run_make_ints (l + 1) hn
  simp only [show (((l + 1 : Nat)) : Int) = (l : Int) + 1 from rfl] at hmk
  go_enter Try.func17, Try.ntmps17
  go_wp2_with fail
  clear hmk
  go_loopw [16] (fun x wr => ∃ (i : Nat) (c : Array Value), i ≤ l + 1 ∧ x = .int .i64 i ∧ Onw w wr ∧ Blk wr w.heap.size 3 c ∧ Arr c (l + 1) (begN (pdOf pm) i) ∧ firstBad (okB (pdOf pm)) 0 (l + 1) = firstBad (okB (pdOf pm)) i (l + 1 - i)) (fun x _ => l + 1 - (intOf x).toNat)
  case atStart => exact ⟨0, _, Nat.zero_le _, rfl, Onw.alloc _ _, Blk.new _ _ _, ⟨size_madeCells _ _, fun k hk => made_int _ k hk⟩, rfl⟩
  case round =>
    obtain ⟨i, c, hi, rfl, ob, B, A, hf⟩ := hrel
    have HF : Hid _ := hf
    have HA : Hid _ := A
    have HBL : Hid _ := B
    clear hf A B
    by_cases hlt : i < l + 1
    · obtain ⟨h1, hV, _⟩ := PiecesAt.onw ob HP.out i hlt
      have hkn : knP (pm i).toPD = (pm i).nk := by unfold knP; rw [if_pos (HSL.out i hlt)]
      have hnk : (pm i).nk ≤ 200 := (HSL.out i hlt).1
      have c0 : wr.cell? ⟨ab, i, none⟩ = some (.iface (ptT (pm i).toPD) (.agg #[.int .i64 (i : Nat), .int .i64 (pm i).kind, .int .i64 (pm i).frm, .int .i64 (pm i).tto, .int .i64 (pm i).line, .int .i64 (pm i).op, .int .i64 (pm i).num, .float .f64 (pm i).flt, .string (pm i).text, .slice (pm i).na (pm i).nn (pm i).nc, .slice (pm i).ka (pm i).nk (pm i).kc, .slice (pk i) (pm i).nk (pm i).nk])) := by
        have := h1
        simp only [pxOf, pv, PX.val, hkn] at this
        exact this
      rw [hkn] at hV
      have HV : Hid _ := hV
      clear h1 hV hkn
      have zb := cell_lt c0
      have ii : (i : Int) < (l : Int) + 1 := by omega
      have mt := meth_top (pm i).toPD
      have fk := field_kids
      obtain ⟨PK, hPK⟩ : ∃ PK, pk i = PK := ⟨_, rfl⟩
      rw [hPK] at c0
      have HPK : Hid _ := hPK
      clear hPK
      obtain ⟨w0, hw0⟩ : ∃ x, x = wr := ⟨_, rfl⟩
      subst hw0
      go_wp2_with fail
      refine (top_any (pm i) i PK (pm i).nk (pm i).nk _).mono ?_
      rintro e w1 ⟨rfl, b1⟩
      have ob1 := ob.trans b1
      clear c0
      go_wp2_with fail
      go_loopw [6, 8] (fun a j wr2 => ∃ (q : Nat) (x : Int), q ≤ (pm i).nk ∧ a = .int .i64 x ∧ j = .int .i64 ((q : Int) - 1) ∧ 0 ≤ x ∧ x ≤ i ∧ Onw w1 wr2 ∧ downB (begN (pdOf pm) i) (pm i).kd (pm i).nk i = downB (begN (pdOf pm) i) (pm i).kd q x) (fun _ j _ => (intOf j + 1).toNat)
      case atStart => exact ⟨(pm i).nk, i, Nat.le_refl _, rfl, rfl, by omega, by omega, Onw.refl _, rfl⟩
      case round =>
        obtain ⟨q, x, hq, rfl, hj, hx0, hx1, ob2, hd⟩ := hrel
        have HD : Hid _ := hd
        clear hd mt
        have B3 : Hid (Blk wr w.heap.size 3 c) := Blk.onw (b1.trans ob2) HBL.out
        by_cases hq0 : 0 < q
        · obtain ⟨q', rfl⟩ : ∃ q', q = q' + 1 := ⟨q - 1, by omega⟩
          rw [show (((q' + 1 : Nat) : Int) - 1) = (q' : Int) from by omega] at hj
          subst hj
          obtain ⟨j0, j1⟩ := HKS.out i hlt q' (by omega)
          obtain ⟨k, hk⟩ := Int.eq_ofNat_of_zero_le j0
          have hkl : k < l + 1 := by omega
          have hkx : Hid (kidX (pm i).toPD (pxOf pm pk) i q' = some ⟨pm k, k, pk k⟩) := by
            show _ = _
            unfold kidX
            rw [if_pos ⟨j0, j1⟩, hk]; rfl
          have hkn : knP (pm k).toPD = (pm k).nk := by unfold knP; rw [if_pos (HSL.out k hkl)]
          obtain ⟨kb, ko, hka, hcc⟩ := ValsAt.onw (b1.trans ob2) HV.out (by omega)
          rw [HPK.out] at hka
          subst hka
          have k0 : wr.cell? ⟨kb, ko + q', none⟩ = some (.iface (ptT (pm k).toPD) (.agg #[.int .i64 (k : Nat), .int .i64 (pm k).kind, .int .i64 (pm k).frm, .int .i64 (pm k).tto, .int .i64 (pm k).line, .int .i64 (pm k).op, .int .i64 (pm k).num, .float .f64 (pm k).flt, .string (pm k).text, .slice (pm k).na (pm k).nn (pm k).nc, .slice (pm k).ka (pm k).nk (pm k).kc, .slice (pk k) (pm k).nk (pm k).nk])) := by
            have := hcc q' (by omega)
            simp only [hkx.out, pv, PX.val, hkn] at this
            exact this
          clear hcc hkn
          have HK : Hid _ := hk
          rw [hk] at j1
          clear hk j0
          have zk := cell_lt k0
          have qn : (q' : Int) < ((pm i).nk : Int) := by omega
          have q0 : (0 : Int) ≤ (q' : Int) := by omega
          have kn : (k : Int) < (l : Int) + 1 := by omega
          have mt := meth_top (pm k).toPD
          have fp := field_place
          obtain ⟨sv, hsv⟩ : ∃ sv, begN (pdOf pm) i k = sv := ⟨_, rfl⟩
          have hb := HB.out i (by omega) k
          rw [hsv] at hb
          obtain ⟨s0, s1⟩ := hb
          have HSV : Hid _ := hsv
          clear hsv
          go_wp2_with fail
          refine (top_any (pm k) k (pk k) (pm k).nk (pm k).nk _).mono ?_
          rintro e w2 ⟨rfl, b2⟩
          have g0 : w2.cell? ⟨w.heap.size, k, none⟩ = some (.int .i64 sv) := by
            rw [Blk.cell (Blk.onw b2 B3.out), ← HSV.out]; exact HA.out.2 k hkl
          clear k0 mt
          by_cases y0 : (k : Int) = x - 1
          · obtain rfl : x = (k : Int) + 1 := by omega
            clear y0
            go_wp2_with fail
            go_roundw
            case rel => exact ⟨q', sv, by omega, rfl, by go_num, by omega, by omega, ob2.trans b2, by rw [HD.out, downB_step HK.out (by omega), HSV.out]⟩
            case measure => simp [intOf] <;> omega
          · have y1 : ((k : Int) != x - 1) = true := by simp only [bne_iff_ne, ne_eq]; exact y0
            go_wp2_with fail
            go_ret
            have hbad : okB (pdOf pm) i = false := by
              show (downB (begN (pdOf pm) i) (pm i).kd (pm i).nk i).isSome = false
              rw [HD.out, downB_off HK.out (by omega)]; rfl
            exact ⟨ret_int (by unfold orderI; rw [HF.out, firstBad_bad hlt hbad]; rfl), (ob1.trans ob2).trans b2⟩
        · obtain rfl : q = 0 := by omega
          subst hj
          have f1 := Blk.free B3.out
          obtain ⟨v0, gx⟩ := Blk.some B3.out (j := i) (by rw [HA.out.1]; exact hlt)
          go_wp2_with fail
          go_roundw
          case rel =>
            refine ⟨i + 1, _, by omega, by go_num, below_set (ob1.trans ob2) (Nat.le_refl _) _, Blk.set B3.out i _, Arr.set HA.out i _ fun m _ => ?_, ?_⟩
            · simp only [begN]
              by_cases e : m = i
              · rw [if_pos e, if_pos e]
                show (downB (begN (pdOf pm) i) (pm i).kd (pm i).nk i).getD 0 = _
                rw [HD.out]; rfl
              · rw [if_neg e, if_neg e]
            · have hgood : okB (pdOf pm) i = true := by
                show (downB (begN (pdOf pm) i) (pm i).kd (pm i).nk i).isSome = true
                rw [HD.out]; rfl
              rw [HF.out, firstBad_ok hlt hgood]
          case measure => simp [intOf] <;> omega
    · obtain rfl : i = l + 1 := by omega
      have hE : Hid (firstBad (okB (pdOf pm)) 0 (l + 1) = none) := by show _ = _; rw [HF.out, firstBad_end hlt]
      obtain ⟨sv, hsv⟩ : ∃ sv, begN (pdOf pm) (l + 1) l = sv := ⟨_, rfl⟩
      have g0 : wr.cell? ⟨w.heap.size, l, none⟩ = some (.int .i64 sv) := by
        rw [Blk.cell HBL.out, ← hsv]; exact HA.out.2 l (by omega)
      have HSV : Hid _ := hsv
      clear hsv hlt hi HF
      by_cases e : sv = 0
      · subst e
        go_wp2_with fail
        go_ret
        exact ⟨ret_int (by unfold orderI; rw [hE.out]; simp only [Nat.add_sub_cancel]; rw [HSV.out]; rfl), ob⟩
      · have e1 : (sv != 0) = true := by simp only [bne_iff_ne, ne_eq]; exact e
        go_wp2_with fail
        go_ret
        exact ⟨ret_int (by unfold orderI; rw [hE.out]; simp only [Nat.add_sub_cancel]; rw [HSV.out, beq_false_of_ne e]; first | rfl | (simp [optI]; done)), ob⟩
end Go.Proofs.Ytnokgdgikdgaeaa

namespace Go.Proofs.Ytnokgdgikdgaeaa
open Go.RowKit
attribute [local go_sem] run_store_float

set_option maxRecDepth 100000 in
set_option maxHeartbeats 4000000 in
theorem firstTooDeep_any (l lo ab : Nat) (pm : Nat → PM) (pk : Nat → Option Addr) (w : World) (hn : l + 1 ≤ 1048576) (hsl : ∀ i, i < l + 1 → slimP (pm i).toPD) (hks : ∀ i, i < l + 1 → ∀ j, j < (pm i).nk → 0 ≤ (pm i).kd j ∧ (pm i).kd j < i) (hP : PiecesAt w lo ab (l + 1) pm pk) :
    Calls Try.prog 18 #[.slice (some ⟨ab, 0, none⟩) (l + 1 : Nat) (l + 1 : Nat)] w fun e w' => e = .returned (.int .i64 (optI (firstBad (fun i => decide (depD (pdOf pm) (l + 1) (l + 1) i ≤ 100)) 0 (l + 1)))) ∧ Onw w w' := by
  have HP : Hid _ := hP
  have HSL : Hid _ := hsl
  have HK : Hid _ := hks
  clear hP hsl hks
  have hmk := run_make_ints (l + 1) hn
  simp only [show (((l + 1 : Nat)) : Int) = (l : Int) + 1 from rfl] at hmk
  go_enter Try.func18, Try.ntmps18
  go_wp2_with fail
  clear hmk
  go_loopw [4] (fun x wr => ∃ (s : Nat) (c : Array Value), s ≤ l + 1 ∧ x = .int .i64 ((l : Int) - s) ∧ Onw w wr ∧ Blk wr w.heap.size 3 c ∧ Arr c (l + 1) (depD (pdOf pm) (l + 1) s)) (fun x _ => (intOf x + 1).toNat)
  case atStart => exact ⟨0, _, Nat.zero_le _, by simp, Onw.alloc _ _, Blk.new _ _ _, ⟨size_madeCells _ _, fun k hk => made_int _ k hk⟩⟩
  case round =>
    obtain ⟨s, c, hs, hx, ob, B, A⟩ := hrel
    have HB : Hid _ := B
    have HA : Hid _ := A
    clear B A
    by_cases hsl : s < l + 1
    · obtain ⟨i, hi⟩ : ∃ i, l = i + s := ⟨l - s, by omega⟩
      rw [show (l : Int) - (s : Int) = (i : Int) by omega] at hx
      subst hx
      have hil : i < l + 1 := by omega
      have hd : Hid (depD (pdOf pm) (l + 1) (s + 1) = dep1 (depD (pdOf pm) (l + 1) s) (pm i).kd i (pm i).nk) := by
        show _ = _
        rw [depD, show l + 1 - 1 - s = i by omega]; rfl
      have HI : Hid _ := hi
      clear hi
      have h1 := (PiecesAt.onw ob HP.out i hil).1
      have hkn : knP (pm i).toPD = (pm i).nk := by unfold knP; rw [if_pos (HSL.out i hil)]
      have hnk : (pm i).nk ≤ 200 := (HSL.out i hil).1
      have c0 : wr.cell? ⟨ab, i, none⟩ = some (.iface (ptT (pm i).toPD) (.agg #[.int .i64 (i : Nat), .int .i64 (pm i).kind, .int .i64 (pm i).frm, .int .i64 (pm i).tto, .int .i64 (pm i).line, .int .i64 (pm i).op, .int .i64 (pm i).num, .float .f64 (pm i).flt, .string (pm i).text, .slice (pm i).na (pm i).nn (pm i).nc, .slice (pm i).ka (pm i).nk (pm i).kc, .slice (pk i) (pm i).nk (pm i).nk])) := by
        have := h1
        simp only [pxOf, pv, PX.val, hkn] at this
        exact this
      clear h1 hkn
      have zb := cell_lt c0
      have ii : (i : Int) < (l : Int) + 1 := by omega
      have i0 : (0 : Int) ≤ (i : Int) := by omega
      have mt := meth_top (pm i).toPD
      have fk := field_kids
      obtain ⟨PK, hPK⟩ : ∃ PK, pk i = PK := ⟨_, rfl⟩
      rw [hPK] at c0
      have HPK : Hid _ := hPK
      clear hPK
      obtain ⟨w0, hw0⟩ : ∃ x, x = wr := ⟨_, rfl⟩
      subst hw0
      go_wp2_with fail
      refine (top_any (pm i) i PK (pm i).nk (pm i).nk _).mono ?_
      rintro e w1 ⟨rfl, b1⟩
      have ob1 : Hid _ := ob.trans b1
      clear c0
      go_wp2_with fail
      go_loopw [26] (fun x wr2 => ∃ (j : Nat) (c : Array Value), j ≤ (pm i).nk ∧ x = .int .i64 j ∧ Onw w wr2 ∧ Blk wr2 w.heap.size 3 c ∧ Arr c (l + 1) (dep1 (depD (pdOf pm) (l + 1) s) (pm i).kd i j)) (fun x _ => (pm i).nk - (intOf x).toNat)
      case atStart => exact ⟨0, c, Nat.zero_le _, rfl, ob1.out, Blk.onw b1 HB.out, HA.out⟩
      case round =>
        obtain ⟨j, c', hj, rfl, ob2, B, A⟩ := hrel
        have HA2 : Hid _ := A
        clear A mt
        by_cases hjt : j < (pm i).nk
        · obtain ⟨j0, j1⟩ := HK.out i hil j hjt
          obtain ⟨k, hk⟩ := Int.eq_ofNat_of_zero_le j0
          have hkl : k < l + 1 := by omega
          have hkx : Hid (kidX (pm i).toPD (pxOf pm pk) i j = some ⟨pm k, k, pk k⟩) := by
            show _ = _
            unfold kidX
            rw [if_pos ⟨j0, j1⟩, hk]; rfl
          have hkn : knP (pm k).toPD = (pm k).nk := by unfold knP; rw [if_pos (HSL.out k hkl)]
          have hki : knP (pm i).toPD = (pm i).nk := by unfold knP; rw [if_pos (HSL.out i hil)]
          obtain ⟨kb, ko, hka, hcc⟩ := (HP.out i hil).2.1 (by rw [hki]; omega)
          rw [HPK.out] at hka
          subst hka
          have kw : w.cell? ⟨kb, ko + j, none⟩ = some (.iface (ptT (pm k).toPD) (.agg #[.int .i64 (k : Nat), .int .i64 (pm k).kind, .int .i64 (pm k).frm, .int .i64 (pm k).tto, .int .i64 (pm k).line, .int .i64 (pm k).op, .int .i64 (pm k).num, .float .f64 (pm k).flt, .string (pm k).text, .slice (pm k).na (pm k).nn (pm k).nc, .slice (pm k).ka (pm k).nk (pm k).kc, .slice (pk k) (pm k).nk (pm k).nk])) := by
            have := hcc j (by rw [hki]; exact hjt)
            simp only [hkx.out, pv, PX.val, hkn] at this
            exact this
          have k0 := cell_onw ob2 kw
          have zw := cell_lt kw
          clear hcc hkn hki kw
          have HKD : Hid _ := hk
          rw [hk] at j1
          clear hk j0
          have zk := cell_lt k0
          obtain ⟨v, hv⟩ : ∃ v, dep1 (depD (pdOf pm) (l + 1) s) (pm i).kd i j i = v := ⟨_, rfl⟩
          have hb := dep1_le (depD_le (pd := pdOf pm) (np := l + 1) (fun i hi j hj => (HK.out i hi j hj).2) s hs) j (fun q hq => (HK.out i hil q (by omega)).2) i
          rw [hv] at hb
          obtain ⟨hb0, hb1⟩ := hb
          have s0 : wr.cell? ⟨w.heap.size, i, none⟩ = some (.int .i64 v) := by
            rw [B.cell, ← hv]; exact HA2.out.2 i hil
          have HV2 : Hid _ := hv
          clear hv
          have kl : (k : Int) < (l : Int) + 1 := by omega
          have kz : (0 : Int) ≤ (k : Int) := by omega
          have jn : (j : Int) < ((pm i).nk : Int) := by omega
          have f1 := B.free
          obtain ⟨v0, gx⟩ := B.some (j := k) (by rw [HA2.out.1]; omega)
          have mt := meth_top (pm k).toPD
          have fp := field_place
          have nek : (⟨w.heap.size, k, none⟩ : Addr) ≠ ⟨w.heap.size, i, none⟩ := by
            intro h
            have : k = i := congrArg Addr.off h
            omega
          have hwr : IntKind.i64.wrap (v + 1) = v + 1 := by rw [IntKind.wrap_i64]; omega
          go_wp2_with fail
          go_region_held3 (fun w' => w'.cell? ⟨w.heap.size, i, none⟩ = some (.int .i64 v)) (first | go_keep | (rw [World.cell?_setCell_other _ _ _ _ nek]; assumption) | (rw [World.cell?_setCell_other _ _ _ _ nek.symm]; assumption))
            (first | (go_at_call 79; refine (top_any (pm k) k (pk k) (pm k).nk (pm k).nk _).mono ?_; rintro e w2 ⟨rfl, b2⟩; have O2 : Onw wr w2 := Onw.trans (Below.drew (Onw.refl _)) b2; have q1 := cell_onw O2 s0; have q2 := cell_onw O2 gx; have q3 := (B.onw O2).free))
          go_wp2_with fail
          go_roundw
          case rel =>
            refine ⟨j + 1, _, by omega, by go_num, below_set (ob2.trans O2) (Nat.le_refl _) _, (B.onw O2).set k _, Arr.set HA2.out k _ fun m _ => ?_⟩
            simp only [dep1]
            rw [HKD.out, HV2.out]
            by_cases e : m = k
            · rw [if_pos e, if_pos (by omega)]
            · rw [if_neg e, if_neg (by omega)]
          case measure => simp [intOf] <;> omega
        · obtain rfl : j = (pm i).nk := by omega
          go_wp2_with fail
          go_roundw
          case rel => exact ⟨s + 1, c', by omega, by have := HI.out; go_num, ob2, B, by rw [hd.out]; exact HA2.out⟩
          case measure => simp [intOf] <;> omega
    · obtain rfl : s = l + 1 := by omega
      subst hx
      go_wp2_with fail
      obtain ⟨wB, hwB⟩ : ∃ x, x = wr := ⟨_, rfl⟩
      subst hwB
      go_loopw [43] (fun x wr2 => ∃ i : Nat, i ≤ l + 1 ∧ x = .int .i64 i ∧ Onw wB wr2 ∧ firstBad (fun i => decide (depD (pdOf pm) (l + 1) (l + 1) i ≤ 100)) 0 (l + 1) = firstBad (fun i => decide (depD (pdOf pm) (l + 1) (l + 1) i ≤ 100)) i (l + 1 - i)) (fun x _ => l + 1 - (intOf x).toNat)
      case atStart => exact ⟨0, Nat.zero_le _, rfl, Onw.refl _, rfl⟩
      case round =>
        obtain ⟨i, hi, rfl, o4, hf⟩ := hrel
        have HF : Hid _ := hf
        clear hf
        have ob4 := ob.trans o4
        by_cases hlt : i < l + 1
        · obtain ⟨v, hv⟩ : ∃ v, depD (pdOf pm) (l + 1) (l + 1) i = v := ⟨_, rfl⟩
          have s0 : wr.cell? ⟨w.heap.size, i, none⟩ = some (.int .i64 v) := by
            rw [Blk.cell (Blk.onw o4 HB.out), ← hv]; exact HA.out.2 i hlt
          have zs := cell_lt s0
          have HV2 : Hid _ := hv
          clear hv
          by_cases e : v ≤ 100
          · go_wp2_with fail
            go_roundw
            case rel => exact ⟨i + 1, by omega, by go_num, o4, by rw [HF.out, firstBad_ok (f := (fun i => decide (depD (pdOf pm) (l + 1) (l + 1) i ≤ 100))) hlt (by rw [HV2.out]; exact decide_eq_true (by omega))]⟩
            case measure => simp [intOf] <;> omega
          · go_wp2_with fail
            go_ret
            exact ⟨ret_int (by rw [HF.out, firstBad_bad (f := (fun i => decide (depD (pdOf pm) (l + 1) (l + 1) i ≤ 100))) hlt (by rw [HV2.out]; exact decide_eq_false (by omega))]; rfl), ob4⟩
        · go_wp2_with fail
          go_ret
          exact ⟨ret_int (by rw [HF.out, firstBad_end hlt]; rfl), ob4⟩
end Go.Proofs.Ytnokgdgikdgaeaa
