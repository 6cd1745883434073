import Derived.Test.YtnokgdgikdgaeaaGreatP05
import Derived.Test.YtnokgdgikdgaeaaGreatP02
import Derived.Test.YtnokgdgikdgaeaaGreatP06
import Derived.Test.YtnokgdgikdgaeaaGreatP03
namespace Go.Proofs.YtnokgdgikdgaeaaGreat
open Go.RowKit
attribute [local go_sem] run_store_float

set_option maxRecDepth 100000 in
set_option maxHeartbeats 4000000 in
theorem formsOf_any (u : UM) (w : World) (hn : u.nf ≤ 1048576) (hs : ∀ f, f < u.nf → (u.fm f).Small ∧ (u.fm f).nn ≤ (u.fm f).nc) (ha : u.At w) :
    Calls Tryz.prog 16 #[.slice u.fa u.nf u.fc] w fun e w' => ∃ ab fb, e = .returned (.slice (some ⟨ab, 0, none⟩) u.nf u.nf) ∧ Onw w w' ∧ FormsAll w' ab u.nf fb u.fm := by
  obtain ⟨nf, fm, ua, uc⟩ := u
  simp only at *
  have HS : Hid _ := hs
  have HA : Hid _ := ha
  clear hs ha
  have hmk := run_make_formss nf hn
  go_enter Tryz.func16, Tryz.ntmps16
  go_wp2_with fail
  clear hmk
  go_loopw [12] (fun i wr => ∃ (k : Nat) (fb : Nat → Nat) (cur : Array Value), k ≤ nf ∧ i = .int .i64 k ∧ Onw w wr ∧ Blk wr w.heap.size 77 cur ∧ cur.size = nf ∧ ∀ f, f < k → cur[f]? = some (.slice (some ⟨fb f, 0, none⟩) (fm f).nn (fm f).nn) ∧ w.heap.size + 1 ≤ fb f ∧ FormsAt wr (w.heap.size + 1) (fb f) (fm f).nn (fm f).nm) (fun i _ => nf - (intOf i).toNat)
  case atStart => exact ⟨0, fun _ => 0, _, Nat.zero_le _, rfl, Onw.alloc _ _, Blk.new _ _ _, size_madeCells _ _, fun f hf => absurd hf (Nat.not_lt_zero _)⟩
  case round =>
    obtain ⟨k, fb, cur, hk, rfl, ob, B, hz, hF⟩ := hrel
    obtain ⟨w0, hw0⟩ : ∃ x, x = wr := ⟨_, rfl⟩
    subst hw0
    have HF : Hid _ := hF
    clear hF
    by_cases hlt : k < nf
    · have hA := FnsAt.onw ob HA.out
      obtain ⟨b, off, rfl, hc⟩ := hA.1 (by omega)
      obtain ⟨c0, c1, c2, c3, c4, c5, c6⟩ := hc k hlt
      have zb := cell_lt c0
      have hmk := run_make_forms (fm k).nn (HS.out k hlt).1.2.2.1
      clear hc
      have fs := B.free
      have zB := B.lt
      obtain ⟨x0, g0⟩ := B.some (j := k) (by rw [hz]; exact hlt)
      go_wp2_with fail
      clear hmk c0 c1 c2 c3 c4 c5 c6
      go_loopw [27] (fun j wr => ∃ (i : Nat) (cur2 : Array Value), i ≤ (fm k).nn ∧ j = .int .i64 i ∧ Onw w wr ∧ Blk wr w.heap.size 77 (cur.setIfInBounds k (.slice (some ⟨w0.heap.size + 1, 0, none⟩) (fm k).nn (fm k).nn)) ∧ Blk wr w0.heap.size 61 #[.string (fm k).name, .int .i64 (fm k).line, .int .i64 (fm k).params, .bool (fm k).rest, .slice (fm k).va (fm k).nv (fm k).vc, .slice (fm k).ua (fm k).nu (fm k).uc, .slice (fm k).na (fm k).nn (fm k).nc] ∧ Blk wr (w0.heap.size + 1) 79 cur2 ∧ cur2.size = (fm k).nn ∧ Kept (fun x => x < w0.heap.size ∧ w.heap.size + 1 ≤ x) w0 wr ∧ ∀ x, x < i → ∃ v, cur2[x]? = some v ∧ FormIs wr (w0.heap.size + 2) (fm k).nm x v) (fun j _ => (fm k).nn - (intOf j).toNat)
      case atStart =>
        have B' := B.set k (.slice (some ⟨w0.heap.size + 1, 0, none⟩) (fm k).nn (fm k).nn)
        have O0 : Onw w (w0.setCell ⟨w.heap.size, k, none⟩ (.slice (some ⟨w0.heap.size + 1, 0, none⟩) (fm k).nn (fm k).nn)) := below_set ob (Nat.le_refl _) _
        have O2 := (Onw.alloc (w0.setCell ⟨w.heap.size, k, none⟩ (.slice (some ⟨w0.heap.size + 1, 0, none⟩) (fm k).nn (fm k).nn)) (Obj.cells #[.string (fm k).name, .int .i64 (fm k).line, .int .i64 (fm k).params, .bool (fm k).rest, .slice (fm k).va (fm k).nv (fm k).vc, .slice (fm k).ua (fm k).nu (fm k).uc, .slice (fm k).na (fm k).nn (fm k).nc] 61)).trans (Onw.alloc _ (Obj.cells (madeCells #[.nilIface] (fm k).nn) 79))
        have F1 := (Blk.new (w0.setCell ⟨w.heap.size, k, none⟩ (.slice (some ⟨w0.heap.size + 1, 0, none⟩) (fm k).nn (fm k).nn)) 61 #[.string (fm k).name, .int .i64 (fm k).line, .int .i64 (fm k).params, .bool (fm k).rest, .slice (fm k).va (fm k).nv (fm k).vc, .slice (fm k).ua (fm k).nu (fm k).uc, .slice (fm k).na (fm k).nn (fm k).nc]).onw (Onw.alloc _ (Obj.cells (madeCells #[.nilIface] (fm k).nn) 79))
        have F2 := Blk.new ((w0.setCell ⟨w.heap.size, k, none⟩ (.slice (some ⟨w0.heap.size + 1, 0, none⟩) (fm k).nn (fm k).nn)).alloc (Obj.cells #[.string (fm k).name, .int .i64 (fm k).line, .int .i64 (fm k).params, .bool (fm k).rest, .slice (fm k).va (fm k).nv (fm k).vc, .slice (fm k).ua (fm k).nu (fm k).uc, .slice (fm k).na (fm k).nn (fm k).nc] 61)) 79 (madeCells #[.nilIface] (fm k).nn)
        simp only [World.size_alloc, World.size_setCell] at F1 F2
        refine ⟨0, _, Nat.zero_le _, rfl, O0.trans O2, B'.onw O2, F1, F2, size_madeCells _ _, ?_, fun x hx => absurd hx (Nat.not_lt_zero _)⟩
        refine Kept.trans (Kept.set (Kept.refl _ w0) (by omega) _) (kept_onw O2 fun x hx => by simp only [World.size_setCell]; exact hx.1)
      case round =>
        clear B fs g0
        have ne1 : w.heap.size ≠ w0.heap.size + 1 := by omega
        have ne2 : w0.heap.size + 1 ≠ w.heap.size := by omega
        obtain ⟨i, cur2, hi, rfl, ob2, B, F1, F2, hz2, hK, hG⟩ := hrel
        have HG : Hid _ := hG
        have HK : Hid _ := hK
        clear hG hK
        by_cases hit : i < (fm k).nn
        · have g1 : wr.cell? ⟨w.heap.size, k, none⟩ = some (.slice (some ⟨w0.heap.size + 1, 0, none⟩) (fm k).nn (fm k).nn) := by rw [B.cell]; simp [hz, hlt]
          have g2 : wr.cell? ⟨w0.heap.size, 6, none⟩ = some (.slice (fm k).na (fm k).nn (fm k).nc) := by rw [F1.cell]; rfl
          have fs := F2.free
          obtain ⟨x0, g3⟩ := F2.some (j := i) (by rw [hz2]; exact hit)
          have aN := ((HA.out.onw ob2).2 k hlt).2.2
          have hs := (HS.out k hlt)
          have s1 := hs.1.2.2.1
          have s2 := hs.2
          have s3 := (hs.1.2.2.2 i hit).2
          clear hs
          go_wp2_with fail
          go_region_held3 (fun w' => w'.cell? ⟨w.heap.size, k, none⟩ = some (.slice (some ⟨w0.heap.size + 1, 0, none⟩) (fm k).nn (fm k).nn) ∧ w'.cell? ⟨w0.heap.size, 6, none⟩ = some (.slice (fm k).na (fm k).nn (fm k).nc)) (go_keep)
            (first | (go_at_call 38; refine (formOf_all _ _ _ (fm k).nm i _ hit s1 s2 s3 (by first | exact aN | exact aN.onw (Below.drew (Onw.refl _)))).mono ?_; rintro e w1 ⟨v, rfl, hb1, kk, rfl, hI1, hf1⟩; have O1 : Onw wr w1 := Onw.trans (Below.drew (Onw.refl _)) hb1; have q1 := cell_onw O1 g1; have q2 := cell_onw O1 g2; have q3 := cell_onw O1 g3; have fs1 := (F2.onw O1).free))
          go_wp2_with fail
          go_roundw
          case rel =>
            refine ⟨i + 1, _, by omega, by go_num, below_set (ob2.trans O1) (by omega) _, (B.onw O1).kept (p := (· ≠ w0.heap.size + 1)) (Kept.set (Kept.refl _ _) (by simp) _) ne1, (F1.onw O1).kept (p := (· ≠ w0.heap.size + 1)) (Kept.set (Kept.refl _ _) (by simp) _) (by simp), (F2.onw O1).set i _, by simp [hz2], ?_, fun x hx => ?_⟩
            · refine Kept.set (Kept.trans (show Kept (fun x => x < w0.heap.size ∧ w.heap.size + 1 ≤ x) w0 wr from HK.out) (kept_onw O1 fun x hx => ?_)) (by omega) _
              have := F2.lt; have := hx.1; omega
            · by_cases e : x = i
              · subst e
                refine ⟨_, by simp [hz2, hit], kk, rfl, hI1.kept (p := (· ≠ w0.heap.size + 1)) (Kept.set (Kept.refl _ _) (by simp) _) ?_, ?_⟩
                · intro y hy
                  have h1 := hf1 y hy; have h2 := F2.lt
                  have h3 : wr.heap.size ≤ y.block := h1
                  omega
                · refine hf1.mono ?_
                  show w0.heap.size + 2 ≤ wr.heap.size
                  have := F2.lt; omega
              · obtain ⟨v, h1, h2⟩ := HG.out x (by omega)
                refine ⟨v, ?_, (h2.onw O1).kept (p := (· ≠ w0.heap.size + 1)) (Kept.set (Kept.refl _ _) (by simp) _) (fun y hy => by omega)⟩
                rw [Array.getElem?_setIfInBounds, if_neg (fun h => e h.symm)]; exact h1
          case measure => simp [intOf]; omega
        · have : i = (fm k).nn := by omega
          go_wp2_with fail
          go_roundw
          case rel =>
            refine ⟨k + 1, fun f => if f = k then w0.heap.size + 1 else fb f, _, by omega, by go_num, ob2, B, by simp [hz], fun f hf => ?_⟩
            by_cases e : f = k
            · subst e
              simp only [if_true]
              refine ⟨by simp [hz, hlt], by omega, fun x hx => ?_⟩
              obtain ⟨v, h1, h2⟩ := HG.out x (by omega)
              exact ⟨v, by rw [F2.cell]; exact h1, h2.low (by omega)⟩
            · simp only [if_neg e]
              obtain ⟨h1, h2, h3⟩ := HF.out f (by omega)
              refine ⟨?_, h2, h3.keptIn HK.out h2⟩
              rw [Array.getElem?_setIfInBounds, if_neg (fun h => e h.symm)]; exact h1
          case measure => simp [intOf]; omega
    · have : k = nf := by omega
      subst this
      go_wp2_with fail
      go_ret
      exact ⟨_, fb, rfl, ob, fun f hf => ⟨by rw [B.cell]; exact (HF.out f hf).1, ((HF.out f hf).2.2).low (Nat.zero_le _)⟩⟩
end Go.Proofs.YtnokgdgikdgaeaaGreat

namespace Go.Proofs.YtnokgdgikdgaeaaGreat
open Go.RowKit
attribute [local go_sem] run_store_float

/-- The depths, after j kids of node n. -/
def dp1 (nd : Nat → ND) (c : Nat → Int) (n : Nat) : Nat → Nat → Int
  | 0 => c
  | j + 1 => fun k => if (k : Int) = (nd n).kd j then dp1 nd c n j n + 1 else dp1 nd c n j k
/-- The depths, after m nodes from the last on. -/
def dpN (nd : Nat → ND) (nn : Nat) : Nat → Nat → Int
  | 0 => fun _ => 0
  | m + 1 => dp1 nd (dpN nd nn m) (nn - 1 - m) (nd (nn - 1 - m)).nk
theorem dp1_le (nd : Nat → ND) (c : Nat → Int) (n : Nat) (B : Int) (h : ∀ k, 0 ≤ c k ∧ c k ≤ B) : ∀ j k, 0 ≤ dp1 nd c n j k ∧ dp1 nd c n j k ≤ B + j
  | 0, k => by have := h k; simp only [dp1]; omega
  | j + 1, k => by
    have h1 := dp1_le nd c n B h j k
    have h2 := dp1_le nd c n B h j n
    simp only [dp1]; split <;> omega
theorem dpN_le (nd : Nat → ND) (nn : Nat) : ∀ m, (∀ x, x < nn → (nd x).nk ≤ 1048576) → m ≤ nn → ∀ k, 0 ≤ dpN nd nn m k ∧ dpN nd nn m k ≤ (m : Int) * 1048576
  | 0, _, _, k => by simp [dpN]
  | m + 1, h, hm, k => by
    have h1 := dpN_le nd nn m h (by omega)
    have h2 := dp1_le nd (dpN nd nn m) (nn - 1 - m) ((m : Int) * 1048576) h1 (nd (nn - 1 - m)).nk k
    have h3 := h (nn - 1 - m) (by omega)
    simp only [dpN]; omega
theorem arr_dp1 {c : Array Value} {N n : Nat} {nd : Nat → ND} {g : Nat → Int} {j q : Nat} {v : Int} (A : Arr c N (dp1 nd g n j)) (hq : (nd n).kd j = (q : Int)) (hv : v = dp1 nd g n j n + 1) :
    Arr (c.setIfInBounds q (.int .i64 v)) N (dp1 nd g n (j + 1)) := by
  refine A.set q v fun k _ => ?_
  simp only [dp1]
  by_cases e : k = q
  · subst e
    rw [if_pos hq.symm, if_pos rfl, hv]
  · rw [if_neg e]
    split
    · omega
    · rfl

/-- Code 5 of a fn, as the program asks it. -/
def deepF (d : FD) : Int :=
  match findN (fun n => decide (100 < dpN d.nd d.nn d.nn n)) 0 d.nn with
  | some n => n
  | none => -1

set_option maxRecDepth 100000 in
set_option maxHeartbeats 2000000 in
theorem deepFault_any (u : UM) (fa sa ma : Option Addr) (fn' fc' sn sc mn mc : Nat) (f : Nat) (w : World) (hf : f < u.nf) (hn : u.nf ≤ 1048576) (hs : (u.fm f).Small) (hok : Ok3 (u.fm f).toFD) (ha : u.At w) :
    Calls Tryz.prog 21 #[.agg #[.slice u.fa u.nf u.fc, .slice fa fn' fc', .slice sa sn sc, .slice ma mn mc], .int .i64 f] w
      fun e w' => e = .returned (.int .i64 (deepF (u.fm f).toFD)) ∧ Onw w w' := by
  obtain ⟨nf, fm, ua, uc⟩ := u
  simp only at *
  obtain ⟨b, off, hua, hc⟩ := FnsAt.onw (Onw.refl w) ha |>.1 (by show 0 < nf; omega)
  simp only at hua
  subst hua
  have c6 := (hc f hf).c6
  have zb := cell_lt c6
  have aN := (ha.2 f hf).2.2
  simp only at aN c6
  clear hc ha
  obtain ⟨s1, s2, s3, s4⟩ := hs
  obtain ⟨o1, o2⟩ := hok
  change 0 < (fm f).nn at o1
  change ∀ i, i < (fm f).nn → ∀ j, j < ((fm f).nm i).nk → 0 ≤ ((fm f).nm i).kd j ∧ ((fm f).nm i).kd j < i at o2
  have HS4 : Hid _ := s4
  have HKS : Hid _ := o2
  clear s4 o2 s1 s2
  have fin : Hid (deepF (fm f).toFD = match findN (fun n => decide (100 < dpN (ndOf (fm f).nm) (fm f).nn (fm f).nn n)) 0 (fm f).nn with | some n => (n : Int) | none => -1) := rfl
  generalize fm f = m at *
  obtain ⟨name, line, params, rest, nv, vr, nu, ul, ui, nn, nm, va, vc, ua', uc', na, nc⟩ := m
  simp only at *
  obtain ⟨nb, no, rfl, hnc⟩ := aN.1 o1
  have HNC : Hid _ := hnc
  clear hnc
  have hmk := run_make_ints nn s3
  go_enter Tryz.func21, Tryz.ntmps21
  go_wp2_with fail
  clear hmk c6
  go_loopw [7] (fun x wr => ∃ m : Nat, m ≤ nn ∧ x = .int .i64 ((nn : Int) - 1 - m) ∧ Onw w wr ∧ ∃ c, Blk wr (w.heap.size + 1) 3 c ∧ Arr c nn (dpN (ndOf nm) nn m)) (fun x _ => (intOf x + 1).toNat)
  case atStart => exact ⟨0, Nat.zero_le _, by go_num, (Onw.alloc _ _).trans (Onw.alloc _ _), _, (by have := Blk.new (w.alloc (Obj.cells #[.slice (some ⟨b, off, none⟩) nf uc, .slice fa fn' fc', .slice sa sn sc, .slice ma mn mc] 44)) 3 (madeCells #[.int .i64 0] nn); simpa using this), size_madeCells _ _, fun k hk => made_int nn k hk⟩
  case round =>
    obtain ⟨m, hm, rfl, ob, c, B, A⟩ := hrel
    by_cases hlt : m < nn
    · obtain ⟨t, ht⟩ : ∃ t : Nat, t = nn - 1 - m := ⟨_, rfl⟩
      have ht' : (nn : Int) - 1 - m = (t : Int) := by omega
      rw [ht']
      have htn : t < nn := by omega
      have HT : Hid _ := ht
      have HT' : Hid _ := ht'
      clear ht ht'
      have d7 := ((HNC.out t htn).onw ob).c7
      have hI := (aN.2 t htn).2
      have hk1 := (HS4.out t htn).2
      have HK : Hid _ := HKS.out t htn
      have HB : Hid _ := dp1_le (ndOf nm) (dpN (ndOf nm) nn m) t ((m : Int) * 1048576) (dpN_le (ndOf nm) nn m (fun x hx => (HS4.out x hx).2) (by omega))
      obtain ⟨KA, hKA⟩ : ∃ KA, (nm t).ka = KA := ⟨_, rfl⟩
      rw [hKA] at d7 hI
      clear hKA
      go_wp2_with fail
      clear d7
      go_loopw [34] (fun j wr => ∃ j' : Nat, j' ≤ (nm t).nk ∧ j = .int .i64 j' ∧ Onw w wr ∧ ∃ c, Blk wr (w.heap.size + 1) 3 c ∧ Arr c nn (dp1 (ndOf nm) (dpN (ndOf nm) nn m) t j')) (fun j _ => (nm t).nk - (intOf j).toNat)
      case atStart => exact ⟨0, Nat.zero_le _, rfl, ob, c, B, A⟩
      case round =>
        clear B A ob
        obtain ⟨j, hj, rfl, ob, c, B, A⟩ := hrel
        by_cases hjt : j < (nm t).nk
        · obtain ⟨kb, ko, rfl, hcc⟩ := hI.onw ob (by omega)
          have hki := hcc j hjt
          clear hcc
          obtain ⟨q0, q1⟩ := HK.out j hjt
          obtain ⟨q, hq⟩ := Int.eq_ofNat_of_zero_le q0
          rw [hq] at hki q1
          have g0 : wr.cell? ⟨w.heap.size + 1, t, none⟩ = some (.int .i64 (dp1 (ndOf nm) (dpN (ndOf nm) nn m) t j t)) := by rw [B.cell]; exact A.2 t htn
          obtain ⟨y, g1⟩ := B.some (j := q) (by rw [A.1]; omega)
          have R : Hid _ := arr_dp1 (v := dp1 (ndOf nm) (dpN (ndOf nm) nn m) t j t + 1) A hq rfl
          have f1 := B.free
          have lb := HB.out j t
          have ub : dp1 (ndOf nm) (dpN (ndOf nm) nn m) t j t ≤ 1099512676352 := by omega
          have lb0 := lb.1
          clear hq q0 lb
          go_wp2_with fail
          go_roundw
          case rel => exact ⟨j + 1, by omega, by go_num, below_set ob (by omega) _, _, B.set q _, R.out⟩
          case measure => simp [intOf]; omega
        · have e : j = (nm t).nk := by omega
          have A' : Arr c nn (dpN (ndOf nm) nn (m + 1)) := by
            have := A
            rw [e] at this
            simp only [dpN]
            rw [← HT.out]; exact this
          clear A e
          go_wp2_with fail
          go_roundw
          case rel => exact ⟨m + 1, by omega, congrArg (Value.int .i64) (show (t : Int) - 1 = (nn : Int) - 1 - ((m + 1 : Nat) : Int) by have := HT'.out; omega), ob, _, B, A'⟩
          case measure => simp [intOf]
    · have : m = nn := by omega
      subst this
      go_wp2_with fail
      go_loopw [49] (fun x wr => ∃ j : Nat, j ≤ m ∧ x = .int .i64 j ∧ Onw w wr ∧ Blk wr (w.heap.size + 1) 3 c ∧ findN (fun n => decide (100 < dpN (ndOf nm) m m n)) 0 m = findN (fun n => decide (100 < dpN (ndOf nm) m m n)) j (m - j)) (fun x _ => m - (intOf x).toNat)
      case atStart => exact ⟨0, Nat.zero_le _, rfl, ob, B, rfl⟩
      case round =>
        clear B ob
        obtain ⟨j, hj, rfl, ob, B, hq⟩ := hrel
        have HQ : Hid _ := hq
        clear hq
        by_cases hjt : j < m
        · have g0 : wr.cell? ⟨w.heap.size + 1, j, none⟩ = some (.int .i64 (dpN (ndOf nm) m m j)) := by rw [B.cell]; exact A.2 j hjt
          have st : Hid (findN (fun n => decide (100 < dpN (ndOf nm) m m n)) j (m - j) = if decide (100 < dpN (ndOf nm) m m j) = true then some j else findN (fun n => decide (100 < dpN (ndOf nm) m m n)) (j + 1) (m - (j + 1))) := by
            show _ = _
            rw [show m - j = (m - (j + 1)) + 1 from by omega]; rfl
          by_cases hx : 100 < dpN (ndOf nm) m m j
          · go_wp2_with fail
            go_ret
            exact ⟨ret_int (by rw [fin.out, HQ.out, st.out, decide_eq_true hx]; rfl), ob⟩
          · go_wp2_with fail
            go_roundw
            case rel => exact ⟨j + 1, by omega, by go_num, ob, B, by rw [HQ.out, st.out, decide_eq_false (by omega)]; rfl⟩
            case measure => simp [intOf]; omega
        · have st : Hid (findN (fun n => decide (100 < dpN (ndOf nm) m m n)) j (m - j) = none) := by
            show _ = _
            rw [show m - j = 0 from by omega]; rfl
          go_wp2_with fail
          go_ret
          exact ⟨ret_int (by rw [fin.out, HQ.out, st.out]), ob⟩
end Go.Proofs.YtnokgdgikdgaeaaGreat

namespace Go.Proofs.YtnokgdgikdgaeaaGreat
open Go.RowKit
attribute [local go_sem] run_store_float

/-- How often each node is a kid, after j kids of node i. -/
def cnt1 (nd : Nat → ND) (c : Nat → Int) (i : Nat) : Nat → Nat → Int
  | 0 => c
  | j + 1 => fun k => if (k : Int) = (nd i).kd j then cnt1 nd c i j k + 1 else cnt1 nd c i j k
def cntN (nd : Nat → ND) : Nat → Nat → Int
  | 0 => fun _ => 0
  | i + 1 => cnt1 nd (cntN nd i) i (nd i).nk
theorem cnt1_le (nd : Nat → ND) (c : Nat → Int) (i : Nat) (B : Int) (h : ∀ k, 0 ≤ c k ∧ c k ≤ B) : ∀ j k, 0 ≤ cnt1 nd c i j k ∧ cnt1 nd c i j k ≤ B + j
  | 0, k => by have := h k; simp only [cnt1]; omega
  | j + 1, k => by
    have := cnt1_le nd c i B h j k
    simp only [cnt1]; split <;> omega
theorem cntN_le (nd : Nat → ND) : ∀ i, (∀ x, x < i → (nd x).nk ≤ 1048576) → ∀ k, 0 ≤ cntN nd i k ∧ cntN nd i k ≤ (i : Int) * 1048576
  | 0, _, k => by simp [cntN]
  | i + 1, h, k => by
    have h1 := cntN_le nd i (fun x hx => h x (by omega))
    have h2 := cnt1_le nd (cntN nd i) i ((i : Int) * 1048576) h1 (nd i).nk k
    have h3 := h i (by omega)
    simp only [cntN]; omega
theorem arr_cnt1 {c : Array Value} {n : Nat} {nd : Nat → ND} {i j q : Nat} {v : Int} (A : Arr c n (cnt1 nd (cntN nd i) i j)) (hq : (nd i).kd j = (q : Int)) (hv : v = cnt1 nd (cntN nd i) i j q + 1) :
    Arr (c.setIfInBounds q (.int .i64 v)) n (cnt1 nd (cntN nd i) i (j + 1)) := by
  refine A.set q v fun k _ => ?_
  simp only [cnt1]
  by_cases e : k = q
  · subst e
    rw [if_pos hq.symm, if_pos rfl, hv]
  · rw [if_neg e]
    split
    · omega
    · rfl

/-- Code 4 of a fn, as the program asks it. -/
def treeF (d : FD) : Int :=
  match findN (fun n => cntN d.nd d.nn n != 1) 0 (d.nn - 1) with
  | some n => n
  | none => if (d.nd (d.nn - 1)).kind != 1 then ((d.nn - 1 : Nat) : Int) else -1

set_option maxRecDepth 100000 in
set_option maxHeartbeats 2000000 in
theorem treeFault_any (u : UM) (fa sa ma : Option Addr) (fn' fc' sn sc mn mc : Nat) (f : Nat) (w : World) (hf : f < u.nf) (hn : u.nf ≤ 1048576) (hs : (u.fm f).Small) (hok : Ok3 (u.fm f).toFD) (ha : u.At w) :
    Calls Tryz.prog 20 #[.agg #[.slice u.fa u.nf u.fc, .slice fa fn' fc', .slice sa sn sc, .slice ma mn mc], .int .i64 f] w
      fun e w' => e = .returned (.int .i64 (treeF (u.fm f).toFD)) ∧ Onw w w' := by
  obtain ⟨nf, fm, ua, uc⟩ := u
  simp only at *
  obtain ⟨b, off, hua, hc⟩ := FnsAt.onw (Onw.refl w) ha |>.1 (by show 0 < nf; omega)
  simp only at hua
  subst hua
  have c6 := (hc f hf).c6
  have zb := cell_lt c6
  have aN := (ha.2 f hf).2.2
  simp only at aN c6
  clear hc ha
  obtain ⟨s1, s2, s3, s4⟩ := hs
  obtain ⟨o1, o2⟩ := hok
  change 0 < (fm f).nn at o1
  change ∀ i, i < (fm f).nn → ∀ j, j < ((fm f).nm i).nk → 0 ≤ ((fm f).nm i).kd j ∧ ((fm f).nm i).kd j < i at o2
  have HS4 : Hid _ := s4
  have HKS : Hid _ := o2
  clear s4 o2 s1 s2
  have fin : Hid (treeF (fm f).toFD = match findN (fun n => cntN (ndOf (fm f).nm) (fm f).nn n != 1) 0 ((fm f).nn - 1) with | some n => (n : Int) | none => if ((fm f).nm ((fm f).nn - 1)).kind != 1 then (((fm f).nn - 1 : Nat) : Int) else -1) := rfl
  generalize fm f = m at *
  obtain ⟨name, line, params, rest, nv, vr, nu, ul, ui, nn, nm, va, vc, ua', uc', na, nc⟩ := m
  simp only at *
  obtain ⟨nb, no, rfl, hnc⟩ := aN.1 o1
  have HNC : Hid _ := hnc
  clear hnc
  have hmk := run_make_ints nn s3
  go_enter Tryz.func20, Tryz.ntmps20
  go_wp2_with fail
  clear hmk c6
  go_loopw [24] (fun i wr => ∃ i' : Nat, i' ≤ nn ∧ i = .int .i64 i' ∧ Onw w wr ∧ ∃ c, Blk wr (w.heap.size + 1) 3 c ∧ Arr c nn (cntN (ndOf nm) i')) (fun i _ => nn - (intOf i).toNat)
  case atStart => exact ⟨0, Nat.zero_le _, rfl, (Onw.alloc _ _).trans (Onw.alloc _ _), _, (by have := Blk.new (w.alloc (Obj.cells #[.slice (some ⟨b, off, none⟩) nf uc, .slice fa fn' fc', .slice sa sn sc, .slice ma mn mc] 44)) 3 (madeCells #[.int .i64 0] nn); simpa using this), size_madeCells _ _, fun k hk => made_int nn k hk⟩
  case round =>
    obtain ⟨i, hi, rfl, ob, c, B, A⟩ := hrel
    by_cases hlt : i < nn
    · obtain ⟨d0, d1, d2, d3, d4, d5, d6, d7⟩ := (HNC.out i hlt).onw ob
      have hI := (aN.2 i hlt).2
      have hk1 := (HS4.out i hlt).2
      have HK : Hid _ := HKS.out i hlt
      have HB : Hid _ := cnt1_le (ndOf nm) (cntN (ndOf nm) i) i ((i : Int) * 1048576) (cntN_le (ndOf nm) i (fun x hx => (HS4.out x (by omega)).2))
      obtain ⟨KA, hKA⟩ : ∃ KA, (nm i).ka = KA := ⟨_, rfl⟩
      rw [hKA] at d7 hI
      clear hKA
      have zB := B.lt
      go_wp2_with fail
      clear d0 d1 d2 d3 d4 d5 d6 d7
      go_loopw [31] (fun j wr => ∃ j' : Nat, j' ≤ (nm i).nk ∧ j = .int .i64 j' ∧ Onw w wr ∧ ∃ c, Blk wr (w.heap.size + 1) 3 c ∧ Arr c nn (cnt1 (ndOf nm) (cntN (ndOf nm) i) i j')) (fun j _ => (nm i).nk - (intOf j).toNat)
      case atStart => exact ⟨0, Nat.zero_le _, rfl, ob.trans (Onw.alloc _ _), c, B.onw (Onw.alloc _ _), A⟩
      case round =>
        clear B A ob zB
        obtain ⟨j, hj, rfl, ob, c, B, A⟩ := hrel
        by_cases hjt : j < (nm i).nk
        · obtain ⟨kb, ko, rfl, hcc⟩ := hI.onw ob (by omega)
          have hki := hcc j hjt
          clear hcc
          obtain ⟨q0, q1⟩ := HK.out j hjt
          obtain ⟨q, hq⟩ := Int.eq_ofNat_of_zero_le q0
          rw [hq] at hki q1
          have g0 : wr.cell? ⟨w.heap.size + 1, q, none⟩ = some (.int .i64 (cnt1 (ndOf nm) (cntN (ndOf nm) i) i j q)) := by rw [B.cell]; exact A.2 q (by omega)
          have R : Hid _ := arr_cnt1 (v := cnt1 (ndOf nm) (cntN (ndOf nm) i) i j q + 1) A hq rfl
          have f1 := B.free
          have lb := HB.out j q
          have ub : cnt1 (ndOf nm) (cntN (ndOf nm) i) i j q ≤ 1099512676352 := by omega
          have lb0 := lb.1
          clear hq q0 lb
          go_wp2_with fail
          go_roundw
          case rel => exact ⟨j + 1, by omega, by go_num, below_set ob (by omega) _, _, B.set q _, R.out⟩
          case measure => simp [intOf]; omega
        · have e : j = (nm i).nk := by omega
          have A' : Arr c nn (cntN (ndOf nm) (i + 1)) := by have := A; rw [e] at this; exact this
          clear A e
          go_wp2_with fail
          go_roundw
          case rel => exact ⟨i + 1, by omega, by go_num, ob, _, B, A'⟩
          case measure => simp [intOf]; omega
    · have : i = nn := by omega
      subst this
      go_wp2_with fail
      go_loopw [47] (fun x wr => ∃ j : Nat, j ≤ i - 1 ∧ x = .int .i64 j ∧ Onw w wr ∧ Blk wr (w.heap.size + 1) 3 c ∧ findN (fun n => cntN (ndOf nm) i n != 1) 0 (i - 1) = findN (fun n => cntN (ndOf nm) i n != 1) j (i - 1 - j)) (fun x _ => i - 1 - (intOf x).toNat)
      case atStart => exact ⟨0, Nat.zero_le _, rfl, ob, B, rfl⟩
      case round =>
        clear B ob
        obtain ⟨j, hj, rfl, ob, B, hq⟩ := hrel
        have HQ : Hid _ := hq
        clear hq
        by_cases hjt : j < i - 1
        · have g0 : wr.cell? ⟨w.heap.size + 1, j, none⟩ = some (.int .i64 (cntN (ndOf nm) i j)) := by rw [B.cell]; exact A.2 j (by omega)
          have st : Hid (findN (fun n => cntN (ndOf nm) i n != 1) j (i - 1 - j) = if (cntN (ndOf nm) i j != 1) = true then some j else findN (fun n => cntN (ndOf nm) i n != 1) (j + 1) (i - 1 - (j + 1))) := by
            show _ = _
            rw [show i - 1 - j = (i - 1 - (j + 1)) + 1 from by omega]; rfl
          cases hx : (cntN (ndOf nm) i j != 1)
          · go_wp2_with fail
            go_roundw
            case rel => exact ⟨j + 1, by omega, by go_num, ob, B, by rw [HQ.out, st.out, hx]; rfl⟩
            case measure => simp [intOf]; omega
          · go_wp2_with fail
            go_ret
            exact ⟨ret_int (by rw [fin.out, HQ.out, st.out, hx]; rfl), ob⟩
        · have st : Hid (findN (fun n => cntN (ndOf nm) i n != 1) j (i - 1 - j) = none) := by
            show _ = _
            rw [show i - 1 - j = 0 from by omega]; rfl
          obtain ⟨d0, d1, d2, d3, d4, d5, d6, d7⟩ := (HNC.out (i - 1) (by omega)).onw ob
          clear d1 d2 d3 d4 d5 d6 d7
          cases hx : ((nm (i - 1)).kind != 1)
          · go_wp2_with fail
            go_ret
            exact ⟨ret_int (by rw [fin.out, HQ.out, st.out]; simp only; rw [hx]; rfl), ob⟩
          · go_wp2_with fail
            go_ret
            exact ⟨ret_int (by rw [fin.out, HQ.out, st.out]; simp only; rw [hx]; simp; omega), ob⟩
end Go.Proofs.YtnokgdgikdgaeaaGreat

namespace Go.Proofs.YtnokgdgikdgaeaaGreat
open Go.RowKit
attribute [local go_sem] run_store_float

/-- Does node n fit its row, as the program asks it? -/
def formOk (d : FD) (n : Nat) : Bool := lineB (d.nd n) && fitB (d.nd n) (fun i => kindK d.nd n ((d.nd n).kd i))
def optI : Option Nat → Int
  | some n => n
  | none => -1
def formF (d : FD) : Int := optI (findN (fun n => !formOk d n) 0 d.nn)

set_option maxRecDepth 100000 in
set_option maxHeartbeats 2000000 in
theorem formFault_any (u : UM) (ab : Nat) (fb : Nat → Nat) (sa ma : Option Addr) (sn sc mn mc : Nat) (f : Nat) (w : World) (hf : f < u.nf) (hn : u.nf ≤ 1048576) (hs : (u.fm f).Small) (hF : FormsAll w ab u.nf fb u.fm) :
    Calls Tryz.prog 19 #[.agg #[.slice u.fa u.nf u.fc, .slice (some ⟨ab, 0, none⟩) u.nf u.nf, .slice sa sn sc, .slice ma mn mc], .int .i64 f] w
      fun e w' => e = .returned (.int .i64 (formF (u.fm f).toFD)) ∧ Onw w w' := by
  obtain ⟨nf, fm, ua, uc⟩ := u
  simp only at *
  obtain ⟨h1, h2⟩ := hF f hf
  have s3 := hs.2.2.1
  have zb := cell_lt h1
  clear hF
  go_enter Tryz.func19, Tryz.ntmps19
  go_wp2_with fail
  go_loopw [13] (fun i wr => ∃ k : Nat, k ≤ (fm f).nn ∧ i = .int .i64 k ∧ Onw w wr ∧ formF (fm f).toFD = optI (findN (fun n => !formOk (fm f).toFD n) k ((fm f).nn - k))) (fun i _ => (fm f).nn - (intOf i).toNat)
  case atStart => exact ⟨0, Nat.zero_le _, rfl, Onw.alloc _ _, rfl⟩
  case round =>
    obtain ⟨k, hk, rfl, ob, hq⟩ := hrel
    have HQ : Hid _ := hq
    clear hq
    by_cases hlt : k < (fm f).nn
    · obtain ⟨v, g1, kk, rfl, hI, _⟩ := h2 k hlt
      have g1' := cell_onw ob g1
      have hI' := hI.onw ob
      have st : Hid (findN (fun n => !formOk (fm f).toFD n) k ((fm f).nn - k) = if (!formOk (fm f).toFD k) = true then some k else findN (fun n => !formOk (fm f).toFD n) (k + 1) ((fm f).nn - (k + 1))) := by
        show _ = _
        rw [show (fm f).nn - k = ((fm f).nn - (k + 1)) + 1 from by omega]; rfl
      have fo : Hid (formOk (fm f).toFD k = (lineB ((fm f).nm k).toND && fitB ((fm f).nm k).toND (fun i => kindK (ndOf (fm f).nm) k (((fm f).nm k).kd i)))) := rfl
      have mh := meth_head ((fm f).nm k).toND
      have mf := meth_fits ((fm f).nm k).toND
      have mc := call_fits ((fm f).nm k).toND
      clear g1 hI
      go_wp2_with fail
      refine (head_any _ _ _ _ _ _).mono ?_
      rintro e w1 ⟨rfl, hb1⟩
      go_wp2_with fail
      refine (lineFits_any _ _ _ _ _ _).mono ?_
      rintro e w2 ⟨rfl, hb2⟩
      cases hx : lineB ((fm f).nm k).toND
      · go_wp2_with fail
        go_ret
        exact ⟨ret_int (by rw [HQ.out, st.out, fo.out, hx]; rfl), (ob.trans hb1).trans hb2⟩
      · go_wp2_with fail
        refine (fits_all _ _ _ _ _ (by exact (hI'.onw hb1).onw hb2)).mono ?_
        rintro e w3 ⟨rfl, hb3⟩
        cases hy : fitB ((fm f).nm k).toND (fun i => kindK (ndOf (fm f).nm) k (((fm f).nm k).kd i))
        · go_wp2_with fail
          go_ret
          exact ⟨ret_int (by rw [HQ.out, st.out, fo.out, hx, hy]; rfl), ((ob.trans hb1).trans hb2).trans hb3⟩
        · go_wp2_with fail
          go_roundw
          case rel => exact ⟨k + 1, by omega, by go_num, ((ob.trans hb1).trans hb2).trans hb3, by rw [HQ.out, st.out, fo.out, hx, hy]; rfl⟩
          case measure => simp [intOf]; omega
    · have st : Hid (findN (fun n => !formOk (fm f).toFD n) k ((fm f).nn - k) = none) := by
        show _ = _
        rw [show (fm f).nn - k = 0 from by omega]; rfl
      go_wp2_with fail
      go_ret
      exact ⟨ret_int (by rw [HQ.out, st.out]; rfl), ob⟩
end Go.Proofs.YtnokgdgikdgaeaaGreat

namespace Go.Proofs.YtnokgdgikdgaeaaGreat
open Go.RowKit

/-- How often x is among the first k of vs. -/
def cntV (nv : Nat) (vs : Nat → Int) : Nat → Nat → Int
  | 0, _ => 0
  | k + 1, x => cntV nv vs k x + (if (x : Int) = vs k ∧ x < nv then 1 else 0)
theorem cntV_le (nv : Nat) (vs : Nat → Int) : ∀ k x, 0 ≤ cntV nv vs k x ∧ cntV nv vs k x ≤ k
  | 0, _ => by simp [cntV]
  | k + 1, x => by have := cntV_le nv vs k x; simp only [cntV]; split <;> omega
theorem holdF_up (nv : Nat) (h : Nat → Int) (vs : Nat → Int) : ∀ k x, holdF nv h vs 1 k x = h x + cntV nv vs k x
  | 0, x => by simp [holdF, cntV]
  | k + 1, x => by
    simp only [holdF, cntV, holdF_up nv h vs k x]
    split <;> omega
theorem holdF_down (nv : Nat) (h : Nat → Int) (vs : Nat → Int) : ∀ k x, holdF nv h vs (-1) k x = h x - cntV nv vs k x
  | 0, x => by simp [holdF, cntV]
  | k + 1, x => by
    simp only [holdF, cntV, holdF_down nv h vs k x]
    split <;> omega

/-- What the lets among the first j kids of node p declare. -/
def letS (nv : Nat) (nd : Nat → ND) (p : Nat) : Nat → Nat → Int
  | 0, _ => 0
  | j + 1, x => letS nv nd p j x + (if (nd ((nd p).kd j).toNat).kind = 2 then cntV nv (nd ((nd p).kd j).toNat).rf (nd ((nd p).kd j).toNat).nr x else 0)

/-- An array of sights. -/
def SArr (c : Array Value) (n : Nat) (a b : Nat → Bool) : Prop := c.size = n * 2 ∧ ∀ k, k < n → c[k * 2]? = some (.bool (a k)) ∧ c[k * 2 + 1]? = some (.bool (b k))
theorem SArr.set0 {c : Array Value} {n : Nat} {a b : Nat → Bool} (h : SArr c n a b) (i : Nat) (v : Bool) : SArr (c.setIfInBounds (i * 2) (.bool v)) n (fun k => if k = i then v else a k) b := by
  refine ⟨by simpa using h.1, fun k hk => ⟨?_, ?_⟩⟩
  · by_cases e : k = i
    · subst e; simp [h.1, hk]
    · simp only [if_neg e]
      rw [Array.getElem?_setIfInBounds, if_neg (by omega)]; exact (h.2 k hk).1
  · rw [Array.getElem?_setIfInBounds, if_neg (by omega)]; exact (h.2 k hk).2
theorem SArr.set1 {c : Array Value} {n : Nat} {a b : Nat → Bool} (h : SArr c n a b) (i : Nat) (v : Bool) : SArr (c.setIfInBounds (i * 2 + 1) (.bool v)) n a (fun k => if k = i then v else b k) := by
  refine ⟨by simpa using h.1, fun k hk => ⟨?_, ?_⟩⟩
  · rw [Array.getElem?_setIfInBounds, if_neg (by omega)]; exact (h.2 k hk).1
  · by_cases e : k = i
    · subst e; simp only [if_true]; rw [Array.getElem?_setIfInBounds, if_pos rfl, if_pos (by rw [h.1]; omega)]
    · simp only [if_neg e]
      rw [Array.getElem?_setIfInBounds, if_neg (by omega)]; exact (h.2 k hk).2
theorem SArr.congr {c : Array Value} {n : Nat} {a b a' b' : Nat → Bool} (h : SArr c n a b) (ha : ∀ k, k < n → a' k = a k) (hb : ∀ k, k < n → b' k = b k) : SArr c n a' b' :=
  ⟨h.1, fun k hk => by rw [ha k hk, hb k hk]; exact h.2 k hk⟩
theorem Arr.congr {c : Array Value} {n : Nat} {f g : Nat → Int} (h : Arr c n f) (e : ∀ k, k < n → g k = f k) : Arr c n g := ⟨h.1, fun k hk => by rw [e k hk]; exact h.2 k hk⟩

/-- What a walk through one fn stands on. -/
structure Ctx where
  u : UM
  m : FM
  w0 : World
  wb : Nat
  hb : Nat
  sb : Nat
  fb : Nat
  H : Nat → Nat → Int
  L : Nat → Int

def loopK (k : Int) : Bool := k == 6 || k == 7 || k == 8
def headK (k : Int) : Bool := k == 7 || k == 8 || k == 12

structure Ctx.Ok (c : Ctx) : Prop where
  hn : c.u.nf ≤ 1048576
  hu : ∀ f, f < c.u.nf → (c.u.fm f).nu ≤ 1048576
  hua : c.u.At c.w0
  hma : c.m.At c.w0
  hsm : c.m.Small
  hF : FormsAt c.w0 0 c.fb c.m.nn c.m.nm
  zwb : c.w0.heap.size ≤ c.wb
  zhb : c.w0.heap.size ≤ c.hb
  zsb : c.w0.heap.size ≤ c.sb
  ne1 : c.wb ≠ c.hb
  ne2 : c.wb ≠ c.sb
  ne3 : c.hb ≠ c.sb
  nk : ∀ n, n < c.m.nn → (c.m.nm n).nk ≤ 200
  kc : ∀ n, n < c.m.nn → (c.m.nm n).nk ≤ (c.m.nm n).kc
  kids : ∀ n, n < c.m.nn → ∀ j, j < (c.m.nm n).nk → 0 ≤ (c.m.nm n).kd j ∧ (c.m.nm n).kd j < n
  k2 : ∀ n, n < c.m.nn → (c.m.nm n).kind = 6 ∨ (c.m.nm n).kind = 8 ∨ (c.m.nm n).kind = 12 → (c.m.nm n).nk = 2
  k4 : ∀ n, n < c.m.nn → (c.m.nm n).kind = 7 → (c.m.nm n).nk = 4
  r1 : ∀ n, n < c.m.nn → (c.m.nm n).kind = 26 ∨ (c.m.nm n).kind = 36 → (c.m.nm n).nr = 1 ∧ (c.m.nm n).nk = 0
  hL : ∀ n, n < c.m.nn → 0 ≤ c.L n ∧ c.L n ≤ 1048576
  hH : ∀ n, n < c.m.nn → ∀ v, 0 ≤ c.H n v ∧ c.H n v ≤ 1000000000000
  eL : ∀ n, n < c.m.nn → ∀ j, j < (c.m.nm n).nk → c.L ((c.m.nm n).kd j).toNat = c.L n + (if loopK (c.m.nm n).kind = true ∧ j + 1 = (c.m.nm n).nk then 1 else 0)
  eH : ∀ n, n < c.m.nn → ∀ j, j < (c.m.nm n).nk → ∀ v, v < c.m.nv → c.H ((c.m.nm n).kd j).toNat v = c.H n v + (if (c.m.nm n).kind = 1 then letS c.m.nv (ndOf c.m.nm) n j v else if headK (c.m.nm n).kind = true ∧ j + 1 = (c.m.nm n).nk then cntV c.m.nv (c.m.nm n).rf (c.m.nm n).nr v else 0)

def Ctx.inL (c : Ctx) (n : Nat) : Bool := decide (0 < c.L n)
def Ctx.fnd (c : Ctx) (n : Nat) : Bool := if (c.m.nm n).kind = 26 then scopeB c.m.nv (c.H n) ((c.m.nm n).rf 0) else if (c.m.nm n).kind = 36 then findsB c.u.toUD c.m.nv (c.H n) c.m.nu ((c.m.nm n).rf 0) else false

/-- The walker's memory. -/
structure Ctx.St (c : Ctx) (w : World) (l : Int) (h : Nat → Int) (a b : Nat → Bool) : Prop where
  o : Onw c.w0 w
  W : WalkAt w c.wb (.slice c.u.fa c.u.nf c.u.fc) (.slice (some ⟨c.fb, 0, none⟩) c.m.nn c.m.nn) c.m.nu c.hb c.m.nv l c.sb c.m.nn
  H : ∃ cur, Blk w c.hb 3 cur ∧ Arr cur c.m.nv h
  S : ∃ sc, Blk w c.sb 104 sc ∧ SArr sc c.m.nn a b
def Ctx.Std (c : Ctx) (w : World) (l : Int) (h : Nat → Int) (dn : Nat → Bool) : Prop := c.St w l h (fun n => dn n && c.inL n) (fun n => dn n && c.fnd n)
theorem Ctx.St.congr {c : Ctx} {w : World} {l : Int} {h h' : Nat → Int} {a b a' b' : Nat → Bool} (s : c.St w l h a b) (e : ∀ v, v < c.m.nv → h' v = h v) (ea : ∀ k, k < c.m.nn → a' k = a k) (eb : ∀ k, k < c.m.nn → b' k = b k) : c.St w l h' a' b' := by
  obtain ⟨o, W, ⟨cur, B, A⟩, sc, B2, S⟩ := s
  exact ⟨o, W, ⟨cur, B, A.congr e⟩, sc, B2, S.congr ea eb⟩
theorem Ctx.St.hs {c : Ctx} {w : World} {l : Int} {h h' : Nat → Int} {a b : Nat → Bool} (s : c.St w l h a b) (e : ∀ v, v < c.m.nv → h' v = h v) : c.St w l h' a b := s.congr e (fun _ _ => rfl) (fun _ _ => rfl)

theorem Ctx.St.onw {c : Ctx} {w w' : World} {l : Int} {h : Nat → Int} {a b : Nat → Bool} (s : c.St w l h a b) (k : Onw w w') : c.St w' l h a b := by
  obtain ⟨o, W, ⟨cur, B, A⟩, sc, B2, S⟩ := s
  exact ⟨o.trans k, ⟨W.blk.onw k⟩, ⟨cur, B.onw k, A⟩, sc, B2.onw k, S⟩

/-- Only the walker's own three blocks turn. -/
structure Ctx.Keep (c : Ctx) (w w' : World) : Prop where
  size : w.heap.size ≤ w'.heap.size
  kept : Kept (fun k => k < w.heap.size ∧ k ≠ c.wb ∧ k ≠ c.hb ∧ k ≠ c.sb) w w'
theorem Ctx.Keep.refl (c : Ctx) (w : World) : c.Keep w w := ⟨Nat.le_refl _, Kept.refl _ _⟩
theorem Ctx.Keep.trans {c : Ctx} {a b d : World} (h : c.Keep a b) (k : c.Keep b d) : c.Keep a d :=
  ⟨Nat.le_trans h.size k.size, fun x hx => (k.kept x ⟨Nat.lt_of_lt_of_le hx.1 h.size, hx.2⟩).trans (h.kept x hx)⟩
theorem Ctx.Keep.blk {c : Ctx} {a b : World} (h : c.Keep a b) {g : Nat} {e : TypeId} {cur : Array Value} (n1 : g ≠ c.wb) (n2 : g ≠ c.hb) (n3 : g ≠ c.sb) (B : Blk a g e cur) : Blk b g e cur := (h.kept g ⟨B.lt, n1, n2, n3⟩).trans B
theorem Ctx.Keep.onw {c : Ctx} {a b : World} (h : Onw a b) : c.Keep a b := ⟨h.size, kept_onw h fun _ hx => hx.1⟩

/-- Nodes that have been seen, and all below those that are new. -/
structure Ctx.Grow (c : Ctx) (dn dn' : Nat → Bool) : Prop where
  mono : ∀ n, dn n = true → dn' n = true
  shut : ∀ n, n < c.m.nn → dn' n = true → dn n = true ∨ ∀ j, j < (c.m.nm n).nk → dn' ((c.m.nm n).kd j).toNat = true
theorem Ctx.Grow.refl (c : Ctx) (dn : Nat → Bool) : c.Grow dn dn := ⟨fun _ h => h, fun _ _ h => Or.inl h⟩
theorem Ctx.Grow.trans {c : Ctx} {a b d : Nat → Bool} (h : c.Grow a b) (k : c.Grow b d) : c.Grow a d :=
  ⟨fun n hn => k.mono n (h.mono n hn), fun n hl hn => by
    rcases k.shut n hl hn with h1 | h1
    · rcases h.shut n hl h1 with h2 | h2
      · exact Or.inl h2
      · exact Or.inr fun j hj => k.mono _ (h2 j hj)
    · exact Or.inr h1⟩

def Ctx.VisitOk (c : Ctx) (p : Nat) : Prop := ∀ (w : World) (dn : Nat → Bool), c.Std w (c.L p) (c.H p) dn →
  Calls Tryz.prog 42 #[.pointer (some ⟨c.wb, 0, none⟩), .int .i64 p] w fun e w' => ∃ dn', e = .returned (.tuple #[]) ∧ c.Std w' (c.L p) (c.H p) dn' ∧ c.Keep w w' ∧ c.Grow dn dn' ∧ dn' p = true

end Go.Proofs.YtnokgdgikdgaeaaGreat

namespace Go.Proofs.YtnokgdgikdgaeaaGreat
open Go.RowKit

set_option maxHeartbeats 1000000 in
theorem visitAll_any (c : Ctx) (va : Option Addr) (n vc : Nat) (vs : Nat → Int) (l : Int) (h : Nat → Int) (w : World) (dn : Nat → Bool) (hn : n ≤ 1048576) (hI : IntsAt c.w0 va n vs)
    (hv : ∀ j, j < n → ∃ q : Nat, vs j = q ∧ c.VisitOk q ∧ c.L q = l ∧ ∀ v, v < c.m.nv → c.H q v = h v) (S : c.Std w l h dn) :
    Calls Tryz.prog 63 #[.pointer (some ⟨c.wb, 0, none⟩), .slice va n vc] w fun e w' => ∃ dn', e = .returned (.tuple #[]) ∧ c.Std w' l h dn' ∧ c.Keep w w' ∧ c.Grow dn dn' ∧ ∀ j, j < n → dn' (vs j).toNat = true := by
  have HV : Hid _ := hv
  clear hv
  go_enter Tryz.func63, Tryz.ntmps63
  go_wp2_with fail
  go_loopw [8] (fun i wr => ∃ (k : Nat) (dk : Nat → Bool), k ≤ n ∧ i = .int .i64 k ∧ c.Std wr l h dk ∧ c.Keep w wr ∧ c.Grow dn dk ∧ ∀ j, j < k → dk (vs j).toNat = true) (fun i _ => n - (intOf i).toNat)
  case atStart => exact ⟨0, dn, Nat.zero_le _, rfl, S, Ctx.Keep.refl _ _, Ctx.Grow.refl _ _, fun j hj => absurd hj (Nat.not_lt_zero _)⟩
  case round =>
    clear S
    obtain ⟨k, dk, hk, rfl, S, K, G, hd⟩ := hrel
    have HD : Hid _ := hd
    clear hd
    by_cases hlt : k < n
    · obtain ⟨b, off, rfl, hc⟩ := hI.onw S.o (by omega)
      have hck := hc k hlt
      obtain ⟨q, hq, hV, hl, hh⟩ := HV.out k hlt
      have HQ : Hid _ := hq
      rw [hq] at hck
      clear hc hq
      go_wp2_with fail
      refine (hV _ dk (by rw [hl]; exact Ctx.St.hs S hh)).mono ?_
      rintro e w1 ⟨d1, rfl, S1, K1, G1, h1⟩
      go_wp2_with fail
      go_roundw
      case rel =>
        refine ⟨k + 1, d1, by omega, by go_num, Ctx.St.hs (by rw [hl] at S1; exact S1) (fun v hv => (hh v hv).symm), K.trans K1, G.trans G1, fun j hj => ?_⟩
        by_cases e : j = k
        · subst e; rw [HQ.out]; exact h1
        · exact G1.mono _ (HD.out j (by omega))
      case measure => simp [intOf]; omega
    · have : k = n := by omega
      subst this
      go_wp2_with fail
      go_end0
      exact ⟨dk, rfl, S, K, G, HD.out⟩
end Go.Proofs.YtnokgdgikdgaeaaGreat
