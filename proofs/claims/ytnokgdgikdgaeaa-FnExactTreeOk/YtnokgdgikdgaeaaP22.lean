import Derived.Test.YtnokgdgikdgaeaaP16
import Derived.Test.YtnokgdgikdgaeaaP21
import Derived.Deep.QuietTactic
import Derived.BigQuiet
import Derived.BigRegion
import Derived.Deep.RegionWith
import Derived.Deep.DeepCutAuto
namespace Go.Proofs.Ytnokgdgikdgaeaa
open Go.RowKit
attribute [local go_sem] run_store_float

def kidsIn (d : PD) (i : Nat) : Bool := allB (fun j => decide (0 ≤ d.kd j) && decide (d.kd j < i)) 0 d.nk
def shapeP (pd : Nat → PD) (d : PD) : Bool := bif statP d.kind then stmtP pd d else expnP pd d
def nodeP (pd : Nat → PD) (d : PD) (i : Nat) : Bool :=
  decide (0 ≤ d.frm) && (decide (d.frm ≤ d.tto) && (decide (0 ≤ d.line) && (decide (d.line ≤ 100000) && (decide (d.nk ≤ 200) && (!(statP d.kind && d.line == 0) && (kidsIn d i && shapeP pd d))))))

/-- What a part of a tree may be as great as. -/
def PM.Slight (m : PM) : Prop := m.nk ≤ 1048576 ∧ m.nn ≤ 1048576 ∧ m.text.size ≤ 1048576 ∧ ∀ i, i < m.nn → (m.nm i).size ≤ 1048576

set_option maxRecDepth 100000 in
set_option maxHeartbeats 2000000 in
theorem l6nodeok_any (t : TM) (i : Nat) (w : World) (hn : t.np ≤ 1048576) (hi : i < t.np) (hs : (t.pm i).Slight) (ht : t.At w) :
    Calls Try.prog 11 #[.agg #[.slice t.pa t.np t.pc], .int .i64 i] w fun e w' => e = .returned (.bool (nodeP (pdOf t.pm) (t.pm i).toPD i)) ∧ Onw w w' := by
  obtain ⟨np, pm, pa, pc⟩ := t
  simp only at *
  obtain ⟨m, hmi⟩ : ∃ m, pm i = m := ⟨_, rfl⟩
  obtain ⟨b, off, hpa, hc⟩ := ht.1 (by show 0 < np; omega)
  simp only at hpa
  subst hpa
  have C := hc i hi
  have hm := ht.2 i hi
  simp only at C hm
  rw [hmi] at C hm hs
  rw [hmi]
  clear hc hmi
  obtain ⟨⟨kind, frm, tto, line, op, num, flt, text, nn, nm, nk, kd⟩, na, nc, ka, kc⟩ := m
  obtain ⟨c0, c1, c2, c3, c4, c5, c6, c7, c8, c9⟩ := C
  obtain ⟨hk, hnn, htx, hz⟩ := hs
  simp only at *
  have i0 : (0 : Int) ≤ (i : Int) := by omega
  have i1 : (i : Int) < (np : Int) := by omega
  have ob := Two.start w (some ⟨b, off, none⟩) np pc kind frm tto line op num flt text na nn nc ka nk kc
  have T := Two.new w (some ⟨b, off, none⟩) np pc kind frm tto line op num flt text na nn nc ka nk kc
  have z1 := cell_lt c0
  by_cases h1 : 0 ≤ frm
  ·
    by_cases h2 : frm ≤ tto
    ·
      by_cases h3 : 0 ≤ line
      ·
        by_cases h4 : line ≤ 100000
        ·
          by_cases h5 : nk ≤ 200
          ·
            have fin : Hid (nodeP (pdOf pm) (⟨kind, frm, tto, line, op, num, flt, text, nn, nm, nk, kd⟩ : PD) i = (!(statP kind && line == 0) && (kidsIn (⟨kind, frm, tto, line, op, num, flt, text, nn, nm, nk, kd⟩ : PD) i && shapeP (pdOf pm) (⟨kind, frm, tto, line, op, num, flt, text, nn, nm, nk, kd⟩ : PD)))) := by
              show _ = _
              unfold nodeP; rw [decide_eq_true (show 0 ≤ (⟨kind, frm, tto, line, op, num, flt, text, nn, nm, nk, kd⟩ : PD).frm from h1), decide_eq_true (show (⟨kind, frm, tto, line, op, num, flt, text, nn, nm, nk, kd⟩ : PD).frm ≤ (⟨kind, frm, tto, line, op, num, flt, text, nn, nm, nk, kd⟩ : PD).tto from h2), decide_eq_true (show 0 ≤ (⟨kind, frm, tto, line, op, num, flt, text, nn, nm, nk, kd⟩ : PD).line from h3), decide_eq_true (show (⟨kind, frm, tto, line, op, num, flt, text, nn, nm, nk, kd⟩ : PD).line ≤ 100000 from h4), decide_eq_true (show (⟨kind, frm, tto, line, op, num, flt, text, nn, nm, nk, kd⟩ : PD).nk ≤ 200 from h5)]; rfl
            go_enter Try.func11, Try.ntmps11
            go_wp2_with fail
            refine (l6stat_any kind _).mono ?_
            rintro e w1 ⟨rfl, rfl⟩
            cases hst : statP kind
            ·
              have fin2 : Hid (nodeP (pdOf pm) (⟨kind, frm, tto, line, op, num, flt, text, nn, nm, nk, kd⟩ : PD) i = (allB (fun j => decide (0 ≤ kd j) && decide (kd j < (i : Int))) 0 nk && expnP (pdOf pm) (⟨kind, frm, tto, line, op, num, flt, text, nn, nm, nk, kd⟩ : PD))) := by
                show _ = _
                rw [fin.out, hst]; unfold shapeP; rw [show statP (⟨kind, frm, tto, line, op, num, flt, text, nn, nm, nk, kd⟩ : PD).kind = false from hst]; rfl
              go_wp2_with fail
              go_loopw [50] (fun x wr => ∃ j : Nat, j ≤ nk ∧ x = .int .i64 j ∧ Onw w wr ∧ Two wr w.heap.size (some ⟨b, off, none⟩) np pc kind frm tto line op num flt text na nn nc ka nk kc ∧ (∀ k, k < j → 0 ≤ kd k ∧ kd k < i) ∧ allB (fun j => decide (0 ≤ kd j) && decide (kd j < (i : Int))) 0 nk = allB (fun j => decide (0 ≤ kd j) && decide (kd j < (i : Int))) j (nk - j)) (fun x _ => nk - (intOf x).toNat)
              case atStart => exact ⟨0, Nat.zero_le _, rfl, ob, T, fun k hk0 => absurd hk0 (Nat.not_lt_zero _), rfl⟩
              case round =>
                clear ob T
                obtain ⟨j, hj, rfl, ob, T, hin, hq⟩ := hrel
                have HQ : Hid _ := hq
                have HI : Hid _ := hin
                clear hq hin
                by_cases hlt : j < nk
                · obtain ⟨kb, ko, hka, hcc⟩ := (hm.onw ob).2 (show 0 < nk by omega)
                  simp only at hka
                  subst hka
                  have k0 := hcc j hlt
                  simp only at k0
                  have z2 := cell_lt k0
                  clear hcc
                  have st : Hid (allB (fun j => decide (0 ≤ kd j) && decide (kd j < (i : Int))) j (nk - j) = ((decide (0 ≤ kd j) && decide (kd j < (i : Int))) && allB (fun j => decide (0 ≤ kd j) && decide (kd j < (i : Int))) (j + 1) (nk - (j + 1)))) := by
                    show _ = _
                    rw [show nk - j = (nk - (j + 1)) + 1 from by omega]; rfl
                  obtain ⟨x, hx⟩ : ∃ x, kd j = x := ⟨_, rfl⟩
                  rw [hx] at k0
                  have HX : Hid _ := hx
                  clear hx
                  obtain ⟨t0, d0, d1, d2, d3, d4, d5, d6, d7, d8, d9⟩ := T
                  by_cases y0 : 0 ≤ x
                  · by_cases y1 : x < (i : Int)
                    · go_wp2_with fail
                      go_roundw
                      case rel => exact ⟨j + 1, by omega, by go_num, ob, ⟨t0, d0, d1, d2, d3, d4, d5, d6, d7, d8, d9⟩, fun k hk1 => by
                        by_cases hkj : k = j
                        · subst hkj; rw [HX.out]; exact ⟨y0, y1⟩
                        · exact HI.out k (by omega), by rw [HQ.out, st.out, HX.out, decide_eq_true y0, decide_eq_true y1]; rfl⟩
                      case measure => simp [intOf]; omega
                    · go_wp2_with fail
                      go_ret
                      exact ⟨ret_bool (by rw [fin2.out, HQ.out, st.out, HX.out, decide_eq_false (show ¬ x < (i : Int) by omega)]; simp), ob⟩
                  · go_wp2_with fail
                    go_ret
                    exact ⟨ret_bool (by rw [fin2.out, HQ.out, st.out, HX.out, decide_eq_false (show ¬ 0 ≤ x by omega)]; simp), ob⟩
                · have st : Hid (allB (fun j => decide (0 ≤ kd j) && decide (kd j < (i : Int))) j (nk - j) = true) := by
                    show _ = _
                    rw [show nk - j = 0 from by omega]; rfl
                  have hr : ∀ k, k < nk → 0 ≤ kd k ∧ kd k < (np : Int) := fun k hk1 => ⟨(HI.out k (by omega)).1, by have := (HI.out k (by omega)).2; omega⟩
                  have HRR : Hid _ := hr
                  clear hr
                  obtain ⟨t0, d0, d1, d2, d3, d4, d5, d6, d7, d8, d9⟩ := T
                  go_wp2_with fail
                  refine (l6stat_any kind _).mono ?_
                  rintro e w1 ⟨rfl, rfl⟩
                  rw [hst]
                  go_wp2_with fail
                  have hr := HRR.out
                  refine (l6expression_any ⟨np, pm, some ⟨b, off, none⟩, pc⟩ ⟨⟨kind, frm, tto, line, op, num, flt, text, nn, nm, nk, kd⟩, na, nc, ka, kc⟩ _ hn hk hnn htx hr hz (TM.At.onw ob ht) (PM.At.onw ob hm)).mono ?_
                  rintro e w2 ⟨rfl, O2⟩
                  go_wp2_with fail
                  go_ret
                  exact ⟨ret_bool (by rw [fin2.out, HQ.out, st.out]; rfl), ob.trans O2⟩
            · by_cases hl : line = 0
              · have fin2 : Hid (nodeP (pdOf pm) (⟨kind, frm, tto, line, op, num, flt, text, nn, nm, nk, kd⟩ : PD) i = false) := by
                  show _ = _
                  rw [fin.out, hst, hl]; rfl
                subst hl
                go_wp2_with fail
                go_ret
                exact ⟨ret_bool fin2.out.symm, ob⟩
              ·
                have fin2 : Hid (nodeP (pdOf pm) (⟨kind, frm, tto, line, op, num, flt, text, nn, nm, nk, kd⟩ : PD) i = (allB (fun j => decide (0 ≤ kd j) && decide (kd j < (i : Int))) 0 nk && stmtP (pdOf pm) (⟨kind, frm, tto, line, op, num, flt, text, nn, nm, nk, kd⟩ : PD))) := by
                  show _ = _
                  rw [fin.out, hst, beq_false_of_ne hl]; unfold shapeP; rw [show statP (⟨kind, frm, tto, line, op, num, flt, text, nn, nm, nk, kd⟩ : PD).kind = true from hst]; rfl
                have hl0 : (line == 0) = false := beq_false_of_ne hl
                clear hl
                go_wp2_with fail
                go_loopw [50] (fun x wr => ∃ j : Nat, j ≤ nk ∧ x = .int .i64 j ∧ Onw w wr ∧ Two wr w.heap.size (some ⟨b, off, none⟩) np pc kind frm tto line op num flt text na nn nc ka nk kc ∧ (∀ k, k < j → 0 ≤ kd k ∧ kd k < i) ∧ allB (fun j => decide (0 ≤ kd j) && decide (kd j < (i : Int))) 0 nk = allB (fun j => decide (0 ≤ kd j) && decide (kd j < (i : Int))) j (nk - j)) (fun x _ => nk - (intOf x).toNat)
                case atStart => exact ⟨0, Nat.zero_le _, rfl, ob, T, fun k hk0 => absurd hk0 (Nat.not_lt_zero _), rfl⟩
                case round =>
                  clear ob T
                  obtain ⟨j, hj, rfl, ob, T, hin, hq⟩ := hrel
                  have HQ : Hid _ := hq
                  have HI : Hid _ := hin
                  clear hq hin
                  by_cases hlt : j < nk
                  · obtain ⟨kb, ko, hka, hcc⟩ := (hm.onw ob).2 (show 0 < nk by omega)
                    simp only at hka
                    subst hka
                    have k0 := hcc j hlt
                    simp only at k0
                    have z2 := cell_lt k0
                    clear hcc
                    have st : Hid (allB (fun j => decide (0 ≤ kd j) && decide (kd j < (i : Int))) j (nk - j) = ((decide (0 ≤ kd j) && decide (kd j < (i : Int))) && allB (fun j => decide (0 ≤ kd j) && decide (kd j < (i : Int))) (j + 1) (nk - (j + 1)))) := by
                      show _ = _
                      rw [show nk - j = (nk - (j + 1)) + 1 from by omega]; rfl
                    obtain ⟨x, hx⟩ : ∃ x, kd j = x := ⟨_, rfl⟩
                    rw [hx] at k0
                    have HX : Hid _ := hx
                    clear hx
                    obtain ⟨t0, d0, d1, d2, d3, d4, d5, d6, d7, d8, d9⟩ := T
                    by_cases y0 : 0 ≤ x
                    · by_cases y1 : x < (i : Int)
                      · go_wp2_with fail
                        go_roundw
                        case rel => exact ⟨j + 1, by omega, by go_num, ob, ⟨t0, d0, d1, d2, d3, d4, d5, d6, d7, d8, d9⟩, fun k hk1 => by
                          by_cases hkj : k = j
                          · subst hkj; rw [HX.out]; exact ⟨y0, y1⟩
                          · exact HI.out k (by omega), by rw [HQ.out, st.out, HX.out, decide_eq_true y0, decide_eq_true y1]; rfl⟩
                        case measure => simp [intOf]; omega
                      · go_wp2_with fail
                        go_ret
                        exact ⟨ret_bool (by rw [fin2.out, HQ.out, st.out, HX.out, decide_eq_false (show ¬ x < (i : Int) by omega)]; simp), ob⟩
                    · go_wp2_with fail
                      go_ret
                      exact ⟨ret_bool (by rw [fin2.out, HQ.out, st.out, HX.out, decide_eq_false (show ¬ 0 ≤ x by omega)]; simp), ob⟩
                  · have st : Hid (allB (fun j => decide (0 ≤ kd j) && decide (kd j < (i : Int))) j (nk - j) = true) := by
                      show _ = _
                      rw [show nk - j = 0 from by omega]; rfl
                    have hr : ∀ k, k < nk → 0 ≤ kd k ∧ kd k < (np : Int) := fun k hk1 => ⟨(HI.out k (by omega)).1, by have := (HI.out k (by omega)).2; omega⟩
                    have HRR : Hid _ := hr
                    clear hr
                    obtain ⟨t0, d0, d1, d2, d3, d4, d5, d6, d7, d8, d9⟩ := T
                    go_wp2_with fail
                    refine (l6stat_any kind _).mono ?_
                    rintro e w1 ⟨rfl, rfl⟩
                    rw [hst]
                    go_wp2_with fail
                    have hr := HRR.out
                    refine (l6statement_any ⟨np, pm, some ⟨b, off, none⟩, pc⟩ ⟨⟨kind, frm, tto, line, op, num, flt, text, nn, nm, nk, kd⟩, na, nc, ka, kc⟩ _ hst hn hk hnn htx hr hz (TM.At.onw ob ht) (PM.At.onw ob hm)).mono ?_
                    rintro e w2 ⟨rfl, O2⟩
                    go_wp2_with fail
                    go_ret
                    exact ⟨ret_bool (by rw [fin2.out, HQ.out, st.out]; rfl), ob.trans O2⟩
          · have fin : Hid (nodeP (pdOf pm) (⟨kind, frm, tto, line, op, num, flt, text, nn, nm, nk, kd⟩ : PD) i = false) := by
              show _ = _
              unfold nodeP; rw [decide_eq_true (show 0 ≤ (⟨kind, frm, tto, line, op, num, flt, text, nn, nm, nk, kd⟩ : PD).frm from h1), decide_eq_true (show (⟨kind, frm, tto, line, op, num, flt, text, nn, nm, nk, kd⟩ : PD).frm ≤ (⟨kind, frm, tto, line, op, num, flt, text, nn, nm, nk, kd⟩ : PD).tto from h2), decide_eq_true (show 0 ≤ (⟨kind, frm, tto, line, op, num, flt, text, nn, nm, nk, kd⟩ : PD).line from h3), decide_eq_true (show (⟨kind, frm, tto, line, op, num, flt, text, nn, nm, nk, kd⟩ : PD).line ≤ 100000 from h4), decide_eq_false (show ¬ (⟨kind, frm, tto, line, op, num, flt, text, nn, nm, nk, kd⟩ : PD).nk ≤ 200 from h5)]; rfl
            go_enter Try.func11, Try.ntmps11
            go_wp2_with fail
            go_ret
            exact ⟨ret_bool fin.out.symm, ob⟩
        · have fin : Hid (nodeP (pdOf pm) (⟨kind, frm, tto, line, op, num, flt, text, nn, nm, nk, kd⟩ : PD) i = false) := by
            show _ = _
            unfold nodeP; rw [decide_eq_true (show 0 ≤ (⟨kind, frm, tto, line, op, num, flt, text, nn, nm, nk, kd⟩ : PD).frm from h1), decide_eq_true (show (⟨kind, frm, tto, line, op, num, flt, text, nn, nm, nk, kd⟩ : PD).frm ≤ (⟨kind, frm, tto, line, op, num, flt, text, nn, nm, nk, kd⟩ : PD).tto from h2), decide_eq_true (show 0 ≤ (⟨kind, frm, tto, line, op, num, flt, text, nn, nm, nk, kd⟩ : PD).line from h3), decide_eq_false (show ¬ (⟨kind, frm, tto, line, op, num, flt, text, nn, nm, nk, kd⟩ : PD).line ≤ 100000 from h4)]; rfl
          go_enter Try.func11, Try.ntmps11
          go_wp2_with fail
          go_ret
          exact ⟨ret_bool fin.out.symm, ob⟩
      · have fin : Hid (nodeP (pdOf pm) (⟨kind, frm, tto, line, op, num, flt, text, nn, nm, nk, kd⟩ : PD) i = false) := by
          show _ = _
          unfold nodeP; rw [decide_eq_true (show 0 ≤ (⟨kind, frm, tto, line, op, num, flt, text, nn, nm, nk, kd⟩ : PD).frm from h1), decide_eq_true (show (⟨kind, frm, tto, line, op, num, flt, text, nn, nm, nk, kd⟩ : PD).frm ≤ (⟨kind, frm, tto, line, op, num, flt, text, nn, nm, nk, kd⟩ : PD).tto from h2), decide_eq_false (show ¬ 0 ≤ (⟨kind, frm, tto, line, op, num, flt, text, nn, nm, nk, kd⟩ : PD).line from h3)]; rfl
        go_enter Try.func11, Try.ntmps11
        go_wp2_with fail
        go_ret
        exact ⟨ret_bool fin.out.symm, ob⟩
    · have fin : Hid (nodeP (pdOf pm) (⟨kind, frm, tto, line, op, num, flt, text, nn, nm, nk, kd⟩ : PD) i = false) := by
        show _ = _
        unfold nodeP; rw [decide_eq_true (show 0 ≤ (⟨kind, frm, tto, line, op, num, flt, text, nn, nm, nk, kd⟩ : PD).frm from h1), decide_eq_false (show ¬ (⟨kind, frm, tto, line, op, num, flt, text, nn, nm, nk, kd⟩ : PD).frm ≤ (⟨kind, frm, tto, line, op, num, flt, text, nn, nm, nk, kd⟩ : PD).tto from h2)]; rfl
      go_enter Try.func11, Try.ntmps11
      go_wp2_with fail
      go_ret
      exact ⟨ret_bool fin.out.symm, ob⟩
  · have fin : Hid (nodeP (pdOf pm) (⟨kind, frm, tto, line, op, num, flt, text, nn, nm, nk, kd⟩ : PD) i = false) := by
      show _ = _
      unfold nodeP; rw [decide_eq_false (show ¬ 0 ≤ (⟨kind, frm, tto, line, op, num, flt, text, nn, nm, nk, kd⟩ : PD).frm from h1)]; rfl
    go_enter Try.func11, Try.ntmps11
    go_wp2_with fail
    go_ret
    exact ⟨ret_bool fin.out.symm, ob⟩
end Go.Proofs.Ytnokgdgikdgaeaa

namespace Go.Proofs.Ytnokgdgikdgaeaa
open Go.RowKit
attribute [local go_sem] run_store_float

/-- An array of whole numbers. -/
def Arr (c : Array Value) (n : Nat) (f : Nat → Int) : Prop := c.size = n ∧ ∀ k, k < n → c[k]? = some (.int .i64 (f k))
theorem Arr.set {c : Array Value} {n : Nat} {f : Nat → Int} (h : Arr c n f) (i : Nat) (v : Int) {g : Nat → Int} (hg : ∀ k, k < n → g k = if k = i then v else f k) : Arr (c.setIfInBounds i (.int .i64 v)) n g := by
  refine ⟨by simpa using h.1, fun k hk => ?_⟩
  rw [hg k hk]
  by_cases e : i = k
  · subst e; simp [h.1, hk]
  · simp only [if_neg (fun x : k = i => e x.symm)]
    have := h.2 k hk
    simp only [Array.getElem?_setIfInBounds, e, if_false]; exact this
theorem Arr.congr {c : Array Value} {n : Nat} {f g : Nat → Int} (h : Arr c n f) (e : ∀ k, k < n → g k = f k) : Arr c n g := ⟨h.1, fun k hk => by rw [e k hk]; exact h.2 k hk⟩
theorem made_int (n i : Nat) (h : i < n) : (madeCells #[.int .i64 0] n)[i]? = some (.int .i64 0) := by
  simp [madeCells, h, Nat.mod_one]

/-- The kids from the last to the first, each just ahead of what stands behind it: where they begin. -/
def downS (S : Nat → Int) (kd : Nat → Int) : Nat → Int → Option Int
  | 0, a => some a
  | j + 1, a => bif (kd j == a - 1) && !(S (kd j).toNat == 0) then downS S kd j (a - S (kd j).toNat) else none
def fromDown (i : Nat) : Option Int → Int
  | some a => i - a + 1
  | none => 0
def sizesN (pd : Nat → PD) : Nat → Nat → Int
  | 0 => fun _ => 0
  | i + 1 => fun k => if k = i then fromDown i (downS (sizesN pd i) (pd i).kd (pd i).nk i) else sizesN pd i k

theorem downS_le {S kd : Nat → Int} (hS : ∀ k : Nat, 0 ≤ S k ∧ S k ≤ k + 1) : ∀ (j : Nat) (a r : Int), (∀ q, q < j → 0 ≤ kd q) → 0 ≤ a → downS S kd j a = some r → 0 ≤ r ∧ r ≤ a
  | 0, a, r, _, h0, h => by simp only [downS, Option.some.injEq] at h; omega
  | j + 1, a, r, hk, h0, h => by
    unfold downS at h
    cases hc : (kd j == a - 1) && !(S (kd j).toNat == 0)
    · rw [hc] at h; simp at h
    · rw [hc] at h
      simp only [cond_true] at h
      have k0 := hk j (by omega)
      have s0 := hS (kd j).toNat
      simp only [Bool.and_eq_true, beq_iff_eq, Bool.not_eq_true', beq_eq_false_iff_ne] at hc
      have := downS_le hS j _ r (fun q hq => hk q (by omega)) (by omega) h
      omega
theorem sizesN_le {pd : Nat → PD} {np : Nat} (hks : ∀ i, i < np → ∀ j, j < (pd i).nk → 0 ≤ (pd i).kd j) : ∀ i, i ≤ np → ∀ k : Nat, 0 ≤ sizesN pd i k ∧ sizesN pd i k ≤ k + 1
  | 0, _, k => by simp only [sizesN]; omega
  | i + 1, hi, k => by
    have ih := sizesN_le hks i (by omega)
    simp only [sizesN]
    by_cases e : k = i
    · rw [if_pos e]
      cases hd : downS (sizesN pd i) (pd i).kd (pd i).nk i
      · simp only [fromDown]; omega
      · have := downS_le ih _ _ _ (hks i (by omega)) (by omega) hd
        simp only [fromDown]; omega
    · rw [if_neg e]; exact ih k

theorem sizesN_zero (pd : Nat → PD) : ∀ i k, i ≤ k → sizesN pd i k = 0
  | 0, _, _ => rfl
  | i + 1, k, h => by simp only [sizesN]; rw [if_neg (by omega)]; exact sizesN_zero pd i k (by omega)
theorem downS_step {S kd : Nat → Int} {q k : Nat} {x : Int} (h : kd q = (k : Int)) (e : (k : Int) = x - 1) (z : S k ≠ 0) : downS S kd (q + 1) x = downS S kd q (x - S k) := by
  rw [downS, h, Int.toNat_natCast, beq_iff_eq.mpr e, beq_false_of_ne z]; rfl
theorem downS_off {S kd : Nat → Int} {q k : Nat} {x : Int} (h : kd q = (k : Int)) (e : ¬ (k : Int) = x - 1) : downS S kd (q + 1) x = none := by
  rw [downS, h, Int.toNat_natCast, beq_false_of_ne e]; rfl
theorem downS_nil {S kd : Nat → Int} {q k : Nat} {x : Int} (h : kd q = (k : Int)) (z : S k = 0) : downS S kd (q + 1) x = none := by
  rw [downS, h, Int.toNat_natCast, z]; simp

/-- The tree's box and the block of sizes. -/
structure SzAt (w0 w : World) (pa : Option Addr) (np pc g : Nat) (c : Array Value) : Prop where
  onw : Onw w0 w
  t0 : Blk w w0.heap.size 31 #[.slice pa np pc]
  b1 : Blk w g 3 c
  d : w0.heap.size < g
theorem SzAt.set {w0 w : World} {pa : Option Addr} {np pc g : Nat} {c : Array Value} (G : SzAt w0 w pa np pc g c) (i : Nat) (v : Value) : SzAt w0 (w.setCell ⟨g, i, none⟩ v) pa np pc g (c.setIfInBounds i v) := by
  obtain ⟨h1, h2, h3, h4⟩ := G
  exact ⟨below_set h1 (by omega) v, h2.kept (kept_setCell w g i v) (by omega), h3.set i v, h4⟩
theorem SzAt.on {w0 w w' : World} {pa : Option Addr} {np pc g : Nat} {c : Array Value} (G : SzAt w0 w pa np pc g c) (h : Onw w w') : SzAt w0 w' pa np pc g c :=
  ⟨G.onw.trans h, G.t0.onw h, G.b1.onw h, G.d⟩

set_option maxRecDepth 100000 in
set_option maxHeartbeats 2000000 in
theorem l6sizes_any (t : TM) (w : World) (h0 : 0 < t.np) (hn : t.np ≤ 1048576) (hkn : ∀ i, i < t.np → (t.pm i).nk ≤ 1048576) (hks : ∀ i, i < t.np → ∀ j, j < (t.pm i).nk → 0 ≤ (t.pm i).kd j ∧ (t.pm i).kd j < i) (ht : t.At w) :
    Calls Try.prog 12 #[.agg #[.slice t.pa t.np t.pc]] w fun e w' => ∃ a, e = .returned (.slice a t.np t.np) ∧ Onw w w' ∧ IntsAt w' a t.np (sizesN (pdOf t.pm) t.np) ∧ Frm w.heap.size a := by
  obtain ⟨np, pm, pa, pc⟩ := t
  simp only at *
  have hmk := run_make_ints np hn
  have HKS : Hid _ := hks
  have HKN : Hid _ := hkn
  have HT : Hid _ := ht
  have HS : Hid _ := sizesN_le (pd := pdOf pm) (np := np) fun i hi j hj => (hks i hi j hj).1
  clear hks hkn ht
  go_enter Try.func12, Try.ntmps12
  go_wp2_with fail
  clear hmk
  go_loopw [17] (fun x wr => ∃ i : Nat, i ≤ np ∧ x = .int .i64 i ∧ ∃ c, SzAt w wr pa np pc (w.heap.size + 1) c ∧ Arr c np (sizesN (pdOf pm) i)) (fun x _ => np - (intOf x).toNat)
  case atStart =>
    refine ⟨0, Nat.zero_le _, rfl, _, ⟨(Onw.alloc _ _).trans (Onw.alloc _ _), (Blk.new _ _ _).onw (Onw.alloc _ _), ?_, by omega⟩, size_madeCells _ _, fun k hk => made_int np k hk⟩
    have := Blk.new (w.alloc (Obj.cells #[.slice pa np pc] 31)) 3 (madeCells #[.int .i64 0] np)
    simpa only [World.size_alloc] using this
  case round =>
    obtain ⟨i, hi, rfl, c, G, A⟩ := hrel
    have HG : Hid _ := G
    have HA : Hid _ := A
    clear G A
    by_cases hlt : i < np
    · obtain ⟨b, off, hpa, hc⟩ := (PartsAt.onw HG.out.onw HT.out).1 (by show 0 < np; omega)
      subst hpa
      obtain ⟨p0, p1, p2, p3, p4, p5, p6, p7, p8, p9⟩ := hc i hlt
      clear hc
      have hI := (HT.out.2 i hlt).2
      have hkn' := HKN.out i hlt
      have zb := cell_lt p0
      obtain ⟨KA, hKA⟩ : ∃ KA, (pm i).ka = KA := ⟨_, rfl⟩
      rw [hKA] at p9 hI
      clear hKA
      obtain ⟨w0, hw0⟩ : ∃ x, x = wr := ⟨_, rfl⟩
      subst hw0
      go_wp2_with fail
      have B := Blk.new w0 41 #[.int .i64 (pm i).kind, .int .i64 (pm i).frm, .int .i64 (pm i).tto, .int .i64 (pm i).line, .int .i64 (pm i).op, .int .i64 (pm i).num, .float .f64 (pm i).flt, .string (pm i).text, .slice (pm i).na (pm i).nn (pm i).nc, .slice KA (pm i).nk (pm i).kc]
      have O2 := Onw.alloc w0 (Obj.cells #[.int .i64 (pm i).kind, .int .i64 (pm i).frm, .int .i64 (pm i).tto, .int .i64 (pm i).line, .int .i64 (pm i).op, .int .i64 (pm i).num, .float .f64 (pm i).flt, .string (pm i).text, .slice (pm i).na (pm i).nn (pm i).nc, .slice KA (pm i).nk (pm i).kc] 41)
      clear p0 p1 p2 p3 p4 p5 p6 p7 p8 p9
      have G2 := HG.out.on O2
      generalize w0.alloc (Obj.cells #[.int .i64 (pm i).kind, .int .i64 (pm i).frm, .int .i64 (pm i).tto, .int .i64 (pm i).line, .int .i64 (pm i).op, .int .i64 (pm i).num, .float .f64 (pm i).flt, .string (pm i).text, .slice (pm i).na (pm i).nn (pm i).nc, .slice KA (pm i).nk (pm i).kc] 41) = w2 at B O2 G2 ⊢
      have x9 : w2.cell? ⟨w0.heap.size, 9, none⟩ = some (.slice KA (pm i).nk (pm i).kc) := by rw [B.cell]; rfl
      clear B
      go_loopw [6, 7, 8] (fun a o j wr2 => ∃ (q : Nat) (x : Int), q ≤ (pm i).nk ∧ a = .int .i64 x ∧ o = .bool true ∧ j = .int .i64 ((q : Int) - 1) ∧ 0 ≤ x ∧ x ≤ i ∧ Onw w2 wr2 ∧ downS (sizesN (pdOf pm) i) (pm i).kd (pm i).nk i = downS (sizesN (pdOf pm) i) (pm i).kd q x) (fun _ _ j _ => (intOf j + 1).toNat)
      case atStart => exact ⟨(pm i).nk, i, Nat.le_refl _, rfl, rfl, rfl, by omega, by omega, Onw.refl _, rfl⟩
      case round =>
        obtain ⟨q, x, hq, rfl, rfl, hj, hx0, hx1, ob2, hd⟩ := hrel
        have HD : Hid _ := hd
        have HG3 : Hid _ := G2.on ob2
        replace x9 := cell_onw ob2 x9
        have z9 := cell_lt x9
        have zg := HG3.out.b1.lt
        clear hd
        by_cases hq0 : 0 < q
        · obtain ⟨q', rfl⟩ : ∃ q', q = q' + 1 := ⟨q - 1, by omega⟩
          rw [show (((q' + 1 : Nat) : Int) - 1) = (q' : Int) from by omega] at hj
          subst hj
          obtain ⟨kb, ko, hka, hcc⟩ := hI.onw ((HG.out.onw).trans (O2.trans ob2)) (by omega)
          subst hka
          have k0 := hcc q' (by omega)
          clear hcc
          obtain ⟨j0, j1⟩ := HKS.out i hlt q' (by omega)
          obtain ⟨k, hk⟩ := Int.eq_ofNat_of_zero_le j0
          have HK : Hid _ := hk
          rw [hk] at k0 j1
          clear hk j0
          obtain ⟨sv, hsv⟩ : ∃ sv, sizesN (pdOf pm) i k = sv := ⟨_, rfl⟩
          have hb := HS.out i (by omega) k
          rw [hsv] at hb
          have s0 : wr.cell? ⟨w.heap.size + 1, k, none⟩ = some (.int .i64 sv) := by
            rw [HG3.out.b1.cell, ← hsv]; exact HA.out.2 k (by omega)
          have HV : Hid _ := hsv
          clear hsv
          obtain ⟨b0, b1⟩ := hb
          have zk := cell_lt k0
          have kn : (k : Int) < (np : Int) := by omega
          have qn : (q' : Int) < ((pm i).nk : Int) := by omega
          by_cases y0 : (k : Int) = x - 1
          · obtain rfl : x = (k : Int) + 1 := by omega
            clear y0
            by_cases y1 : sv = 0
            · subst y1
              go_wp2_with fail
              go_roundw
              case rel =>
                refine ⟨i + 1, by omega, by go_num, c, ?_, Arr.congr HA.out fun m _ => ?_⟩
                · first | exact HG3.out | exact HG3.out.on (Below.drew (Onw.refl _)) | exact HG3.out.on (below_drewN (Onw.refl _) _)
                · simp only [sizesN]
                  by_cases e : m = i
                  · rw [if_pos e, e, sizesN_zero _ i i (Nat.le_refl _)]
                    show fromDown i (downS (sizesN (pdOf pm) i) (pm i).kd (pm i).nk i) = 0
                    rw [HD.out, downS_nil HK.out HV.out]; rfl
                  · rw [if_neg e]
              case measure => simp [intOf] <;> omega
            · go_wp2_with fail
              go_roundw
              case rel => exact ⟨q', (k : Int) + 1 - sv, by omega, by go_num, rfl, by go_num, by omega, by omega, by first | exact ob2 | exact ob2.trans (Below.drew (Onw.refl _)) | exact ob2.trans (below_drewN (Onw.refl _) _), by rw [HD.out, downS_step HK.out (by omega) (by rw [HV.out]; exact y1), HV.out]⟩
              case measure => simp [intOf] <;> omega
          ·
            go_wp2_with fail
            go_roundw
            case rel =>
              refine ⟨i + 1, by omega, by go_num, c, ?_, Arr.congr HA.out fun m _ => ?_⟩
              · first | exact HG3.out | exact HG3.out.on (Below.drew (Onw.refl _)) | exact HG3.out.on (below_drewN (Onw.refl _) _)
              · simp only [sizesN]
                by_cases e : m = i
                · rw [if_pos e, e, sizesN_zero _ i i (Nat.le_refl _)]
                  show fromDown i (downS (sizesN (pdOf pm) i) (pm i).kd (pm i).nk i) = 0
                  rw [HD.out, downS_off HK.out (by omega)]; rfl
                · rw [if_neg e]
            case measure => simp [intOf] <;> omega
        · obtain rfl : q = 0 := by omega
          subst hj
          have f1 := HG3.out.b1.free
          obtain ⟨v0, gx⟩ := HG3.out.b1.some (j := i) (by rw [HA.out.1]; exact hlt)
          have xi : (i : Int) - x + 1 ≤ 1048577 := by omega
          go_wp2_with fail
          go_roundw
          case rel =>
            refine ⟨i + 1, by omega, by go_num, _, HG3.out.set i _, Arr.set HA.out i _ fun m _ => ?_⟩
            simp only [sizesN]
            by_cases e : m = i
            · rw [if_pos e, if_pos e]
              show fromDown i (downS (sizesN (pdOf pm) i) (pm i).kd (pm i).nk i) = _
              rw [HD.out]; rfl
            · rw [if_neg e, if_neg e]
          case measure => simp [intOf] <;> omega
    · go_wp2_with fail
      go_ret
      have : i = np := by omega
      subst this
      refine ⟨_, rfl, HG.out.onw, fun _ => ⟨_, _, rfl, fun k hk => ?_⟩, ?_⟩
      · rw [HG.out.b1.cell]; simpa using HA.out.2 k hk
      · intro x hx; cases hx; exact Nat.le_succ _
end Go.Proofs.Ytnokgdgikdgaeaa

namespace Go.Proofs.Ytnokgdgikdgaeaa
open Go.RowKit
attribute [local go_sem] run_store_float

/-- The first of n from i on that fails. -/
def firstBad (f : Nat → Bool) : Nat → Nat → Option Nat
  | _, 0 => none
  | i, n + 1 => bif f i then firstBad f (i + 1) n else some i
theorem firstBad_ok {f : Nat → Bool} {i n : Nat} (h : i < n) (hf : f i = true) : firstBad f i (n - i) = firstBad f (i + 1) (n - (i + 1)) := by
  rw [show n - i = (n - (i + 1)) + 1 from by omega, firstBad, hf]; rfl
theorem firstBad_bad {f : Nat → Bool} {i n : Nat} (h : i < n) (hf : f i = false) : firstBad f i (n - i) = some i := by
  rw [show n - i = (n - (i + 1)) + 1 from by omega, firstBad, hf]; rfl
theorem firstBad_end {f : Nat → Bool} {i n : Nat} (h : ¬ i < n) : firstBad f i (n - i) = none := by
  rw [show n - i = 0 from by omega]; rfl

/-- How deep: the kids of one part, then of the parts from the last to the first. -/
def dep1 (D : Nat → Int) (kd : Nat → Int) (i : Nat) : Nat → Nat → Int
  | 0 => D
  | j + 1 => fun k => if (k : Int) = kd j then dep1 D kd i j i + 1 else dep1 D kd i j k
def depD (pd : Nat → PD) (np : Nat) : Nat → Nat → Int
  | 0 => fun _ => 0
  | s + 1 => dep1 (depD pd np s) (pd (np - 1 - s)).kd (np - 1 - s) (pd (np - 1 - s)).nk
theorem dep1_at {D kd : Nat → Int} {i : Nat} : ∀ j, (∀ q, q < j → kd q < i) → dep1 D kd i j i = D i
  | 0, _ => rfl
  | j + 1, h => by
    simp only [dep1]
    rw [if_neg (by have := h j (by omega); omega)]
    exact dep1_at j fun q hq => h q (by omega)
theorem dep1_le {D kd : Nat → Int} {i : Nat} {s : Int} (hD : ∀ k, 0 ≤ D k ∧ D k ≤ s) : ∀ j, (∀ q, q < j → kd q < i) → ∀ k, 0 ≤ dep1 D kd i j k ∧ dep1 D kd i j k ≤ s + 1
  | 0, _, k => by have := hD k; simp only [dep1]; omega
  | j + 1, h, k => by
    have h' : ∀ q, q < j → kd q < i := fun q hq => h q (by omega)
    simp only [dep1]
    by_cases e : (k : Int) = kd j
    · rw [if_pos e, dep1_at j h']; have := hD i; omega
    · rw [if_neg e]; exact dep1_le hD j h' k
theorem depD_le {pd : Nat → PD} {np : Nat} (hks : ∀ i, i < np → ∀ j, j < (pd i).nk → (pd i).kd j < i) : ∀ s, s ≤ np → ∀ k, 0 ≤ depD pd np s k ∧ depD pd np s k ≤ s
  | 0, _, _ => by simp [depD]
  | s + 1, h, k => by
    have := dep1_le (depD_le hks s (by omega)) (pd (np - 1 - s)).nk (hks (np - 1 - s) (by omega)) k
    simp only [depD]; omega

def after (c : Int) (o : Option Nat) (r : Int × Int) : Int × Int := match o with | some i => (c, i) | none => r
/-- What the model says of a tree. -/
def specT (pd : Nat → PD) (np : Nat) : Int × Int :=
  bif decide (0 < np) && (decide (np ≤ 3000) && ((pd (np - 1)).kind == 1)) then
    after 2 (firstBad (fun i => nodeP pd (pd i) i) 0 np) (after 3 (firstBad (fun i => !(sizesN pd np i == 0)) 0 np)
      (bif sizesN pd np (np - 1) == np then after 4 (firstBad (fun i => decide (depD pd np np i ≤ 100)) 0 np) (0, 0) else (3, (np : Int) - 1)))
  else (1, 0)
theorem nodeP_kids {pd : Nat → PD} {d : PD} {i : Nat} (h : nodeP pd d i = true) : ∀ j, j < d.nk → 0 ≤ d.kd j ∧ d.kd j < i := by
  have hk : kidsIn d i = true := by
    unfold nodeP at h
    simp only [Bool.and_eq_true] at h
    exact h.2.2.2.2.2.2.1
  have go : ∀ n s, allB (fun j => decide (0 ≤ d.kd j) && decide (d.kd j < (i : Int))) s n = true → ∀ j, s ≤ j → j < s + n → 0 ≤ d.kd j ∧ d.kd j < i := by
    intro n
    induction n with
    | zero => intro s _ j h1 h2; omega
    | succ n ih =>
      intro s hs j h1 h2
      have hs' : ((decide (0 ≤ d.kd s) && decide (d.kd s < (i : Int))) && allB (fun j => decide (0 ≤ d.kd j) && decide (d.kd j < (i : Int))) (s + 1) n) = true := hs
      simp only [Bool.and_eq_true, decide_eq_true_eq] at hs'
      by_cases e : j = s
      · subst e; exact hs'.1
      · exact ih (s + 1) hs'.2 j (by omega) (by omega)
  intro j hj
  exact go d.nk 0 hk j (Nat.zero_le _) (by omega)
end Go.Proofs.Ytnokgdgikdgaeaa

namespace Go.Proofs.Ytnokgdgikdgaeaa
open Go.RowKit
attribute [local go_sem] run_store_float

set_option maxRecDepth 100000 in
set_option maxHeartbeats 2000000 in
theorem specTree_bad (t : TM) (w : World) (hn : t.np ≤ 1048576) (ht : t.At w) (hb : (decide (0 < t.np) && (decide (t.np ≤ 3000) && (((pdOf t.pm) (t.np - 1)).kind == 1))) = false) :
    Calls Try.prog 5 #[.agg #[.slice t.pa t.np t.pc]] w fun e w' => e = .returned (.agg #[.int .i64 1, .int .i64 0]) ∧ Onw w w' := by
  obtain ⟨np, pm, pa, pc⟩ := t
  simp only at *
  by_cases h0 : np = 0
  · subst h0
    go_enter Try.func5, Try.ntmps5
    go_wp2_with fail
    refine bodyPost_ret (v := .agg #[.int .i64 1, .int .i64 0]) (by simp [results, Try.results5, go_sem]) rfl ?_
    exact ⟨rfl, (Onw.alloc _ _).trans (Onw.alloc _ _)⟩
  · by_cases h1 : np ≤ 3000
    · have hk : ¬ (pm (np - 1)).kind = 1 := by
        intro e
        rw [decide_eq_true (show 0 < np by omega), decide_eq_true h1, show (pdOf pm (np - 1)).kind = 1 from e] at hb
        simp at hb
      obtain ⟨b, off, hpa, hc⟩ := ht.1 (by show 0 < np; omega)
      simp only at hpa
      subst hpa
      have p0 := (hc (np - 1) (by show _ < np; omega)).c0
      simp only at p0
      obtain ⟨l, hl⟩ : ∃ l, np - 1 = l := ⟨_, rfl⟩
      rw [hl] at p0 hk
      obtain rfl : np = l + 1 := by omega
      clear hl hb hc ht
      have zb := cell_lt p0
      have n0 : ((l : Int) + 1 == 0) = false := beq_false_of_ne (by omega)
      have n1 : decide (3000 < (l : Int) + 1) = false := decide_eq_false (by omega)
      have k1 : ((pm l).kind != 1) = true := bne_iff_ne.mpr hk
      clear hk
      go_enter Try.func5, Try.ntmps5
      go_wp2_with fail
      refine bodyPost_ret (v := .agg #[.int .i64 1, .int .i64 0]) (by simp [results, Try.results5, go_sem]) rfl ?_
      exact ⟨rfl, (Onw.alloc _ _).trans (Onw.alloc _ _)⟩
    · go_enter Try.func5, Try.ntmps5
      go_wp2_with fail
      refine bodyPost_ret (v := .agg #[.int .i64 1, .int .i64 0]) (by simp [results, Try.results5, go_sem]) rfl ?_
      exact ⟨rfl, (Onw.alloc _ _).trans (Onw.alloc _ _)⟩
end Go.Proofs.Ytnokgdgikdgaeaa
