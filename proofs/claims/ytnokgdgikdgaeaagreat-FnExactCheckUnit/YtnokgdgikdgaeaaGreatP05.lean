import Derived.Test.YtnokgdgikdgaeaaGreatP04
namespace Go.Proofs.YtnokgdgikdgaeaaGreat
open Go.RowKit
attribute [local go_sem] run_store_float

theorem isNaN_any (x : Nat) (w : World) : Calls Tryz.prog 127 #[.float .f64 x] w fun e w' => e = .returned (.bool (!fnum x)) ∧ w' = w := by
  go_enter Tryz.func127, Tryz.ntmps127
  go_wp2
  go_ret
  exact ⟨rfl, rfl⟩

set_option maxHeartbeats 1000000 in
theorem fits_fltForm (m : NM) (p : Int) (kk : Option Addr) (kn kc : Nat) (w : World) :
    Calls Tryz.prog 126 #[.agg #[.int .i64 p, .int .i64 m.kind, .int .i64 m.line, .int .i64 m.op, .int .i64 m.num, .float .f64 m.flt, .string m.str, .slice m.ra m.nr m.rc, .slice m.ka m.nk m.kc, .slice kk kn kc]] w fun e w' => e = .returned (.bool (usesB m.toND false false true false false false && fnum m.flt)) ∧ Onw w w' := by
  go_enter Tryz.func126, Tryz.ntmps126
  go_wp2_with fail
  refine (usesOnly_any m p kk kn kc 4 _ false false true false false false (by simp)).mono ?_
  rintro e w1 ⟨rfl, hb1⟩
  have B := (Blk.new w 151 #[.int .i64 p, .int .i64 m.kind, .int .i64 m.line, .int .i64 m.op, .int .i64 m.num, .float .f64 m.flt, .string m.str, .slice m.ra m.nr m.rc, .slice m.ka m.nk m.kc, .slice kk kn kc]).onw hb1
  have bc := B.cell
  cases hx : usesB m.toND false false true false false false
  · go_wp2_with fail
    go_ret
    exact ⟨ret_bool (by first | rfl | (rw [hx]; rfl)), (Onw.alloc _ _).trans hb1⟩
  · go_wp2_with fail
    refine (isNaN_any _ _).mono ?_
    rintro e w2 ⟨rfl, rfl⟩
    go_wp2_with fail
    go_ret
    exact ⟨ret_bool (by first | rfl | (simp [hx]; done) | simp), (Onw.alloc _ _).trans hb1⟩

set_option maxHeartbeats 1000000 in
theorem fits_strangeForm (m : NM) (p : Int) (kk : Option Addr) (kn kc : Nat) (w : World) :
    Calls Tryz.prog 116 #[.agg #[.int .i64 p, .int .i64 m.kind, .int .i64 m.line, .int .i64 m.op, .int .i64 m.num, .float .f64 m.flt, .string m.str, .slice m.ra m.nr m.rc, .slice m.ka m.nk m.kc, .slice kk kn kc]] w fun e w' => e = .returned (.bool (false)) ∧ Onw w w' := by
  go_enter Tryz.func116, Tryz.ntmps116
  go_wp2
  go_ret
  exact ⟨rfl, by first | exact Onw.alloc _ _ | exact Onw.refl _⟩

theorem ints_to {w : World} {b off n n' : Nat} {f : Nat → Int} (h : IntsAt w (some ⟨b, off, none⟩) n f) (hn : n' ≤ n) : IntsAt w (some ⟨b, off, none⟩) n' f := fun h0 => by
  obtain ⟨b', off', he, hc⟩ := h (by omega)
  exact ⟨b', off', he, fun i hi => hc i (by omega)⟩
theorem ints_from {w : World} {b off n t : Nat} {f : Nat → Int} (h : IntsAt w (some ⟨b, off, none⟩) n f) (ht : t < n) : IntsAt w (some ⟨b, off + t, none⟩) (n - t) (fun i => f (t + i)) := fun h0 => by
  obtain ⟨b', off', he, hc⟩ := h (by omega)
  simp only [Option.some.injEq, Addr.mk.injEq, and_true] at he
  obtain ⟨rfl, rfl⟩ := he
  exact ⟨b, off + t, rfl, fun i hi => by rw [Nat.add_assoc]; exact hc (t + i) (by omega)⟩

set_option maxHeartbeats 1000000 in
theorem fits_setForm (m : NM) (p : Int) (kk : Option Addr) (kn kc : Nat) (kf : Nat → Int) (w : World) (hn : kn ≤ 1048576) (hkc : kn ≤ kc) (hk : IntsAt w kk kn kf) :
    Calls Tryz.prog 119 #[.agg #[.int .i64 p, .int .i64 m.kind, .int .i64 m.line, .int .i64 m.op, .int .i64 m.num, .float .f64 m.flt, .string m.str, .slice m.ra m.nr m.rc, .slice m.ka m.nk m.kc, .slice kk kn kc]] w fun e w' => e = .returned (.bool (usesB m.toND false true false false false true && decide (1 ≤ m.num) && decide (m.num < kn) && allB (fun i => classB 7 (kf i)) 0 m.num.toNat && allB (fun i => classB 1 (kf (m.num.toNat + i))) 0 (kn - m.num.toNat))) ∧ Onw w w' := by
  go_enter Tryz.func119, Tryz.ntmps119
  go_wp2_with fail
  refine (usesOnly_any m p kk kn kc 34 _ false true false false false true (by simp)).mono ?_
  rintro e w1 ⟨rfl, hb1⟩
  have B := (Blk.new w 144 #[.int .i64 p, .int .i64 m.kind, .int .i64 m.line, .int .i64 m.op, .int .i64 m.num, .float .f64 m.flt, .string m.str, .slice m.ra m.nr m.rc, .slice m.ka m.nk m.kc, .slice kk kn kc]).onw hb1
  have bc := B.cell
  cases hx : usesB m.toND false true false false false true
  · go_wp2_with fail
    go_ret
    exact ⟨ret_bool (by first | rfl | (rw [hx]; rfl)), (Onw.alloc _ _).trans hb1⟩
  · by_cases h1 : m.num < 1
    · have D : Hid (decide (1 ≤ m.num) = false) := decide_eq_false (by omega)
      go_wp2_with fail
      go_ret
      exact ⟨ret_bool (by first | rfl | (rw [D.out]; rfl) | (rw [hx, D.out]; rfl)), (Onw.alloc _ _).trans hb1⟩
    · have D : Hid (decide (1 ≤ m.num) = true) := decide_eq_true (by omega)
      by_cases h2 : (kn : Int) ≤ m.num
      · have D2 : Hid (decide (m.num < (kn : Int)) = false) := decide_eq_false (by omega)
        go_wp2_with fail
        go_ret
        exact ⟨ret_bool (by first | rfl | (rw [hx, D.out, D2.out]; rfl) | (rw [D.out, D2.out]; rfl) | (simp [D2.out]; done)), (Onw.alloc _ _).trans hb1⟩
      · have D2 : Hid (decide (m.num < (kn : Int)) = true) := decide_eq_true (by omega)
        obtain ⟨b, off, rfl, hcc⟩ := hk (by omega)
        clear hcc
        have i1 : m.num ≤ (kc : Int) := by omega
        have i2 : m.num ≤ (kn : Int) := by omega
        have i0 : 0 ≤ m.num := by omega
        go_wp2_with fail
        have hk1 := hk.onw ((Onw.alloc w (Obj.cells #[.int .i64 p, .int .i64 m.kind, .int .i64 m.line, .int .i64 m.op, .int .i64 m.num, .float .f64 m.flt, .string m.str, .slice m.ra m.nr m.rc, .slice m.ka m.nk m.kc, .slice (some ⟨b, off, none⟩) kn kc] 144)).trans hb1)
        refine (hasAll_any _ _ _ _ kf _ (by omega) (by omega) (by omega) (by exact ints_to hk1 (by omega))).mono ?_
        rintro e w2 ⟨rfl, rfl⟩
        cases hy : allB (fun i => classB 7 (kf i)) 0 m.num.toNat
        · go_wp2_with fail
          go_ret
          exact ⟨ret_bool (by first | rfl | (rw [hx, D.out, D2.out, hy]; rfl) | (rw [hy, Bool.and_false]; rfl)), (Onw.alloc _ _).trans hb1⟩
        · go_wp2_with fail
          refine (hasAll_any _ _ _ _ (fun i => kf (m.num.toNat + i)) _ (by omega) (by omega) (by omega) (by exact ints_from hk1 (by omega))).mono ?_
          rintro e w2 ⟨rfl, rfl⟩
          go_wp2_with fail
          go_ret
          exact ⟨ret_bool (by first | rfl | (rw [hx, D.out, D2.out, hy]; rfl)), (Onw.alloc _ _).trans hb1⟩

set_option maxHeartbeats 1000000 in
theorem fits_tableForm (m : NM) (p : Int) (kk : Option Addr) (kn kc : Nat) (kf : Nat → Int) (w : World) (hn : kn ≤ 1048576) (hk : IntsAt w kk kn kf) :
    Calls Tryz.prog 134 #[.agg #[.int .i64 p, .int .i64 m.kind, .int .i64 m.line, .int .i64 m.op, .int .i64 m.num, .float .f64 m.flt, .string m.str, .slice m.ra m.nr m.rc, .slice m.ka m.nk m.kc, .slice kk kn kc]] w fun e w' => e = .returned (.bool (usesB m.toND true false false false false true && ((kn : Int) % 2 == 0) && allB (fun i => classB 1 (kf i)) 0 kn && (m.op == 0 || m.op == 1 && decide (2 ≤ (kn : Int)) && classB 6 (kf (kn - 2)) && classB 5 (kf (kn - 1))))) ∧ Onw w w' := by
  have o0 : (m.op == 0) = true ∧ (m.op == 1) = false ∨ (m.op == 0) = false ∧ (m.op == 1) = true ∨ (m.op == 0) = false ∧ (m.op == 1) = false := by simp; omega
  go_enter Tryz.func134, Tryz.ntmps134
  go_wp2_with fail
  refine (usesOnly_any m p kk kn kc 33 _ true false false false false true (by simp)).mono ?_
  rintro e w1 ⟨rfl, hb1⟩
  have B := (Blk.new w 158 #[.int .i64 p, .int .i64 m.kind, .int .i64 m.line, .int .i64 m.op, .int .i64 m.num, .float .f64 m.flt, .string m.str, .slice m.ra m.nr m.rc, .slice m.ka m.nk m.kc, .slice kk kn kc]).onw hb1
  have bc := B.cell
  cases hx : usesB m.toND true false false false false true
  · go_wp2_with fail
    go_ret
    exact ⟨ret_bool (by first | rfl | (rw [hx]; rfl)), (Onw.alloc _ _).trans hb1⟩
  · cases h2 : ((kn : Int) % 2 == 0)
    · have h2' : ((kn : Int) % 2 != 0) = true := by rw [bne, h2]; rfl
      go_wp2_with fail
      go_ret
      exact ⟨ret_bool (by first | rfl | (rw [hx, h2]; rfl)), (Onw.alloc _ _).trans hb1⟩
    · have h2' : ((kn : Int) % 2 != 0) = false := by rw [bne, h2]; rfl
      go_wp2_with fail
      have hk1 := hk.onw ((Onw.alloc w (Obj.cells #[.int .i64 p, .int .i64 m.kind, .int .i64 m.line, .int .i64 m.op, .int .i64 m.num, .float .f64 m.flt, .string m.str, .slice m.ra m.nr m.rc, .slice m.ka m.nk m.kc, .slice kk kn kc] 158)).trans hb1)
      refine (hasAll_any _ _ _ _ kf _ (by omega) (by omega) (by omega) (by exact hk1)).mono ?_
      rintro e w2 ⟨rfl, rfl⟩
      cases hy : allB (fun i => classB 1 (kf i)) 0 kn
      · go_wp2_with fail
        go_ret
        exact ⟨ret_bool (by first | rfl | (rw [hx, h2, hy]; rfl)), (Onw.alloc _ _).trans hb1⟩
      · rcases o0 with ⟨o0, o1⟩ | ⟨o0, o1⟩ | ⟨o0, o1⟩
        · go_wp2_with fail
          go_ret
          exact ⟨ret_bool (by first | rfl | (rw [hx, h2, hy, o0]; rfl)), (Onw.alloc _ _).trans hb1⟩
        · by_cases h3 : 2 ≤ (kn : Int)
          · have D : Hid (decide (2 ≤ (kn : Int)) = true) := decide_eq_true h3
            obtain ⟨b, off, rfl, hcc⟩ := hk1 (by omega)
            have k2 := hcc (kn - 2) (by omega)
            have k1 := hcc (kn - 1) (by omega)
            clear hcc
            go_wp2_with fail
            refine (has_any _ _ _ (by omega) (by omega)).mono ?_
            rintro e w3 ⟨rfl, rfl⟩
            cases h6 : classB 6 (kf (kn - 2))
            · go_wp2_with fail
              go_ret
              exact ⟨ret_bool (by first | rfl | (rw [hx, h2, hy, o0, o1, D.out, h6]; rfl) | simp_all), (Onw.alloc _ _).trans hb1⟩
            · go_wp2_with fail
              refine (has_any _ _ _ (by omega) (by omega)).mono ?_
              rintro e w3 ⟨rfl, rfl⟩
              go_wp2_with fail
              go_ret
              exact ⟨ret_bool (by first | rfl | (rw [hx, h2, hy, o0, o1, D.out, h6]; rfl) | simp_all), (Onw.alloc _ _).trans hb1⟩
          · have D : Hid (decide (2 ≤ (kn : Int)) = false) := decide_eq_false h3
            go_wp2_with fail
            go_ret
            exact ⟨ret_bool (by first | rfl | (rw [hx, h2, hy, o0, o1, D.out]; rfl) | (simp_all; omega)), (Onw.alloc _ _).trans hb1⟩
        · go_wp2_with fail
          go_ret
          exact ⟨ret_bool (by first | rfl | (rw [hx, h2, hy, o0, o1]; rfl)), (Onw.alloc _ _).trans hb1⟩
end Go.Proofs.YtnokgdgikdgaeaaGreat

namespace Go.Proofs.YtnokgdgikdgaeaaGreat
open Go.RowKit
attribute [local go_sem] run_store_float

def fmT (d : ND) : TypeId := if d.nk ≤ 200 then formT d.kind else 121
def knN (d : ND) : Nat := if d.nk ≤ 200 then d.nk else 0

/-- The form of node pl; the kinds of its kids lie behind lo. -/
def FormIs (w : World) (lo : Nat) (nm : Nat → NM) (pl : Nat) (v : Value) : Prop :=
  ∃ kk, v = .iface (fmT (nm pl).toND) (.agg #[.int .i64 pl, .int .i64 (nm pl).kind, .int .i64 (nm pl).line, .int .i64 (nm pl).op, .int .i64 (nm pl).num, .float .f64 (nm pl).flt, .string (nm pl).str, .slice (nm pl).ra (nm pl).nr (nm pl).rc, .slice (nm pl).ka (nm pl).nk (nm pl).kc, .slice kk (knN (nm pl).toND) (knN (nm pl).toND)]) ∧ IntsAt w kk (knN (nm pl).toND) (fun i => kindK (ndOf nm) pl ((nm pl).kd i)) ∧ Frm lo kk
theorem FormIs.onw {w w' : World} (hb : Onw w w') {lo nm pl v} (h : FormIs w lo nm pl v) : FormIs w' lo nm pl v := by
  obtain ⟨kk, h1, h2, h3⟩ := h; exact ⟨kk, h1, h2.onw hb, h3⟩
theorem FormIs.kept {p : Nat → Prop} {w w' : World} (hk : Kept p w w') {lo nm pl v} (hp : ∀ k, lo ≤ k → p k) (h : FormIs w lo nm pl v) : FormIs w' lo nm pl v := by
  obtain ⟨kk, h1, h2, h3⟩ := h; exact ⟨kk, h1, h2.kept hk (fun x hx => hp _ (h3 x hx)), h3⟩
theorem FormIs.low {w : World} {lo lo' nm pl v} (hl : lo' ≤ lo) (h : FormIs w lo nm pl v) : FormIs w lo' nm pl v := by
  obtain ⟨kk, h1, h2, h3⟩ := h; exact ⟨kk, h1, h2, h3.mono hl⟩

def FormsAt (w : World) (lo b n : Nat) (nm : Nat → NM) : Prop := ∀ i, i < n → ∃ v, w.cell? ⟨b, i, none⟩ = some v ∧ FormIs w lo nm i v
theorem FormsAt.onw {w w' : World} (hb : Onw w w') {lo b n nm} (h : FormsAt w lo b n nm) : FormsAt w' lo b n nm := fun i hi => by
  obtain ⟨v, h1, h2⟩ := h i hi; exact ⟨v, cell_onw hb h1, h2.onw hb⟩
theorem FormsAt.kept {p : Nat → Prop} {w w' : World} (hk : Kept p w w') {lo b n nm} (hb : p b) (hp : ∀ k, lo ≤ k → p k) (h : FormsAt w lo b n nm) : FormsAt w' lo b n nm := fun i hi => by
  obtain ⟨v, h1, h2⟩ := h i hi; exact ⟨v, (hk.cell hb).trans h1, h2.kept hk hp⟩

theorem FormsAt.keptIn {w w' : World} {lo b n nm} (hk : Kept (fun x => x < w.heap.size ∧ lo ≤ x) w w') (hb : lo ≤ b) (h : FormsAt w lo b n nm) : FormsAt w' lo b n nm := fun i hi => by
  obtain ⟨v, h1, kk, h2, h3, h4⟩ := h i hi
  refine ⟨v, (hk.cell ⟨cell_lt h1, hb⟩).trans h1, kk, h2, fun h0 => ?_, h4⟩
  obtain ⟨b', off, e, hc⟩ := h3 h0
  exact ⟨b', off, e, fun j hj => (hk.cell ⟨cell_lt (hc j hj), h4 _ e⟩).trans (hc j hj)⟩
theorem FormsAt.low {w : World} {lo lo' b n nm} (hl : lo' ≤ lo) (h : FormsAt w lo b n nm) : FormsAt w lo' b n nm := fun i hi => by
  obtain ⟨v, h1, h2⟩ := h i hi; exact ⟨v, h1, h2.low hl⟩

theorem kept_onw {p : Nat → Prop} {w w' : World} (h : Onw w w') (hp : ∀ x, p x → x < w.heap.size) : Kept p w w' := fun x hx => h.block x (hp x hx)

def FormsAll (w : World) (ab nf : Nat) (fb : Nat → Nat) (fm : Nat → FM) : Prop := ∀ f, f < nf → w.cell? ⟨ab, f, none⟩ = some (.slice (some ⟨fb f, 0, none⟩) (fm f).nn (fm f).nn) ∧ FormsAt w 0 (fb f) (fm f).nn (fm f).nm
theorem FormsAll.onw {w w' : World} (hb : Onw w w') {ab nf fb fm} (h : FormsAll w ab nf fb fm) : FormsAll w' ab nf fb fm := fun f hf => ⟨cell_onw hb (h f hf).1, (h f hf).2.onw hb⟩

theorem formOf_all (a : Option Addr) (n c : Nat) (nm : Nat → NM) (pl : Nat) (w : World) (hpl : pl < n) (hn : n ≤ 1048576) (hc0 : n ≤ c) (hk : (nm pl).nk ≤ 1048576) (ha : NodesAt w a n nm) :
    Calls Tryz.prog 38 #[.slice a n c, .int .i64 pl] w fun e w' => ∃ v, e = .returned v ∧ Onw w w' ∧ FormIs w' w.heap.size nm pl v := by
  by_cases h : (nm pl).nk ≤ 200
  · refine (formOf_any a n c nm pl w hpl hn hc0 hk h ha).mono ?_
    rintro e w' ⟨kk, rfl, h1, h2, h3⟩
    refine ⟨_, rfl, h1, kk, ?_, ?_, h3⟩
    · rw [fmT, if_pos h, knN, if_pos h]
    · rw [knN, if_pos h]; exact h2
  · refine (formOf_big a n c nm pl w hpl hn hk (by omega) ha).mono ?_
    rintro e w' ⟨rfl, h1⟩
    refine ⟨_, rfl, h1, none, ?_, ?_, fun x hx => by cases hx⟩
    · rw [fmT, if_neg h, knN, if_neg h]
    · rw [knN, if_neg h]; exact fun h0 => absurd h0 (Nat.lt_irrefl 0)

theorem info_form : (Tryz.prog.info? 79).map (fun i => (i.zero, i.size, i.bytes)) = some (some .nilIface, 1, 16) := by kernel_rfl
theorem info_forms : (Tryz.prog.info? 77).map (fun i => (i.zero, i.size, i.bytes)) = some (some (.slice none 0 0), 1, 24) := by kernel_rfl
theorem run_make_forms (n : Nat) (hn : n ≤ 1048576) (w : World) :
    (Instr.makeSlice 77 (.int .i64 n) (.int .i64 n)).run Tryz.prog w = .ok (.slice (some ⟨w.heap.size, 0, none⟩) n n) (w.alloc (.cells (madeCells #[.nilIface] n) 79)) := by
  obtain ⟨i0, hi, hz0, hz1, hz2⟩ := info_parts info_form
  have := run_make (P := Tryz.prog) w 77 79 i0 _ Tryz.underlying77 hi hz0 .i64 .i64 n n (by omega) (by omega) (by rw [hz2]; omega) (by omega)
  simpa [hz1, Value.cells] using this
theorem run_make_formss (n : Nat) (hn : n ≤ 1048576) (w : World) :
    (Instr.makeSlice 39 (.int .i64 n) (.int .i64 n)).run Tryz.prog w = .ok (.slice (some ⟨w.heap.size, 0, none⟩) n n) (w.alloc (.cells (madeCells #[.slice none 0 0] n) 77)) := by
  obtain ⟨i0, hi, hz0, hz1, hz2⟩ := info_parts info_forms
  have := run_make (P := Tryz.prog) w 39 77 i0 _ Tryz.underlying39 hi hz0 .i64 .i64 n n (by omega) (by omega) (by rw [hz2]; omega) (by omega)
  simpa [hz1, Value.cells] using this

end Go.Proofs.YtnokgdgikdgaeaaGreat

namespace Go.Proofs.YtnokgdgikdgaeaaGreat
open Go.RowKit
attribute [local go_sem] run_store_float

set_option maxHeartbeats 1000000 in
theorem fits_jumpForm (m : NM) (p : Int) (kk : Option Addr) (kn kc : Nat) (w : World) :
    Calls Tryz.prog 114 #[.agg #[.int .i64 p, .int .i64 m.kind, .int .i64 m.line, .int .i64 m.op, .int .i64 m.num, .float .f64 m.flt, .string m.str, .slice m.ra m.nr m.rc, .slice m.ka m.nk m.kc, .slice kk kn kc]] w fun e w' => e = .returned (.bool (usesB m.toND false false false false false false)) ∧ Onw w w' := by
  go_enter Tryz.func114, Tryz.ntmps114
  go_wp2_with fail
  refine (usesOnly_any m p kk kn kc 0 _ false false false false false false (by simp)).mono ?_
  rintro e w1 ⟨rfl, hb1⟩
  have B := (Blk.new w 106 #[.int .i64 p, .int .i64 m.kind, .int .i64 m.line, .int .i64 m.op, .int .i64 m.num, .float .f64 m.flt, .string m.str, .slice m.ra m.nr m.rc, .slice m.ka m.nk m.kc, .slice kk kn kc]).onw hb1
  have bc := B.cell
  go_wp2_with fail
  go_ret
  exact ⟨rfl, (Onw.alloc _ _).trans hb1⟩

set_option maxHeartbeats 1000000 in
theorem fits_bareForm (m : NM) (p : Int) (kk : Option Addr) (kn kc : Nat) (w : World) :
    Calls Tryz.prog 124 #[.agg #[.int .i64 p, .int .i64 m.kind, .int .i64 m.line, .int .i64 m.op, .int .i64 m.num, .float .f64 m.flt, .string m.str, .slice m.ra m.nr m.rc, .slice m.ka m.nk m.kc, .slice kk kn kc]] w fun e w' => e = .returned (.bool (usesB m.toND false false false false false false)) ∧ Onw w w' := by
  go_enter Tryz.func124, Tryz.ntmps124
  go_wp2_with fail
  refine (usesOnly_any m p kk kn kc 0 _ false false false false false false (by simp)).mono ?_
  rintro e w1 ⟨rfl, hb1⟩
  have B := (Blk.new w 149 #[.int .i64 p, .int .i64 m.kind, .int .i64 m.line, .int .i64 m.op, .int .i64 m.num, .float .f64 m.flt, .string m.str, .slice m.ra m.nr m.rc, .slice m.ka m.nk m.kc, .slice kk kn kc]).onw hb1
  have bc := B.cell
  go_wp2_with fail
  go_ret
  exact ⟨rfl, (Onw.alloc _ _).trans hb1⟩

set_option maxHeartbeats 1000000 in
theorem fits_restForm (m : NM) (p : Int) (kk : Option Addr) (kn kc : Nat) (w : World) :
    Calls Tryz.prog 115 #[.agg #[.int .i64 p, .int .i64 m.kind, .int .i64 m.line, .int .i64 m.op, .int .i64 m.num, .float .f64 m.flt, .string m.str, .slice m.ra m.nr m.rc, .slice m.ka m.nk m.kc, .slice kk kn kc]] w fun e w' => e = .returned (.bool (usesB m.toND false false false false false false)) ∧ Onw w w' := by
  go_enter Tryz.func115, Tryz.ntmps115
  go_wp2_with fail
  refine (usesOnly_any m p kk kn kc 0 _ false false false false false false (by simp)).mono ?_
  rintro e w1 ⟨rfl, hb1⟩
  have B := (Blk.new w 108 #[.int .i64 p, .int .i64 m.kind, .int .i64 m.line, .int .i64 m.op, .int .i64 m.num, .float .f64 m.flt, .string m.str, .slice m.ra m.nr m.rc, .slice m.ka m.nk m.kc, .slice kk kn kc]).onw hb1
  have bc := B.cell
  go_wp2_with fail
  go_ret
  exact ⟨rfl, (Onw.alloc _ _).trans hb1⟩

set_option maxHeartbeats 1000000 in
theorem fits_intForm (m : NM) (p : Int) (kk : Option Addr) (kn kc : Nat) (w : World) :
    Calls Tryz.prog 125 #[.agg #[.int .i64 p, .int .i64 m.kind, .int .i64 m.line, .int .i64 m.op, .int .i64 m.num, .float .f64 m.flt, .string m.str, .slice m.ra m.nr m.rc, .slice m.ka m.nk m.kc, .slice kk kn kc]] w fun e w' => e = .returned (.bool (usesB m.toND false true false false false false)) ∧ Onw w w' := by
  go_enter Tryz.func125, Tryz.ntmps125
  go_wp2_with fail
  refine (usesOnly_any m p kk kn kc 2 _ false true false false false false (by simp)).mono ?_
  rintro e w1 ⟨rfl, hb1⟩
  have B := (Blk.new w 150 #[.int .i64 p, .int .i64 m.kind, .int .i64 m.line, .int .i64 m.op, .int .i64 m.num, .float .f64 m.flt, .string m.str, .slice m.ra m.nr m.rc, .slice m.ka m.nk m.kc, .slice kk kn kc]).onw hb1
  have bc := B.cell
  go_wp2_with fail
  go_ret
  exact ⟨rfl, (Onw.alloc _ _).trans hb1⟩

set_option maxHeartbeats 1000000 in
theorem fits_strForm (m : NM) (p : Int) (kk : Option Addr) (kn kc : Nat) (w : World) :
    Calls Tryz.prog 128 #[.agg #[.int .i64 p, .int .i64 m.kind, .int .i64 m.line, .int .i64 m.op, .int .i64 m.num, .float .f64 m.flt, .string m.str, .slice m.ra m.nr m.rc, .slice m.ka m.nk m.kc, .slice kk kn kc]] w fun e w' => e = .returned (.bool (usesB m.toND false false false true false false && (decide ((m.str.size : Int) ≤ 4000)))) ∧ Onw w w' := by
  go_enter Tryz.func128, Tryz.ntmps128
  go_wp2_with fail
  refine (usesOnly_any m p kk kn kc 8 _ false false false true false false (by simp)).mono ?_
  rintro e w1 ⟨rfl, hb1⟩
  have B := (Blk.new w 152 #[.int .i64 p, .int .i64 m.kind, .int .i64 m.line, .int .i64 m.op, .int .i64 m.num, .float .f64 m.flt, .string m.str, .slice m.ra m.nr m.rc, .slice m.ka m.nk m.kc, .slice kk kn kc]).onw hb1
  have bc := B.cell
  cases hx : usesB m.toND false false false true false false
  all_goals
    go_wp2_with fail
    all_goals go_ret
    all_goals exact ⟨ret_bool (by simp_all <;> omega), (Onw.alloc _ _).trans hb1⟩

set_option maxHeartbeats 1000000 in
theorem fits_varForm (m : NM) (p : Int) (kk : Option Addr) (kn kc : Nat) (w : World) :
    Calls Tryz.prog 112 #[.agg #[.int .i64 p, .int .i64 m.kind, .int .i64 m.line, .int .i64 m.op, .int .i64 m.num, .float .f64 m.flt, .string m.str, .slice m.ra m.nr m.rc, .slice m.ka m.nk m.kc, .slice kk kn kc]] w fun e w' => e = .returned (.bool (usesB m.toND false false false false true false && ((m.nr : Int) == 1))) ∧ Onw w w' := by
  go_enter Tryz.func112, Tryz.ntmps112
  go_wp2_with fail
  refine (usesOnly_any m p kk kn kc 16 _ false false false false true false (by simp)).mono ?_
  rintro e w1 ⟨rfl, hb1⟩
  have B := (Blk.new w 102 #[.int .i64 p, .int .i64 m.kind, .int .i64 m.line, .int .i64 m.op, .int .i64 m.num, .float .f64 m.flt, .string m.str, .slice m.ra m.nr m.rc, .slice m.ka m.nk m.kc, .slice kk kn kc]).onw hb1
  have bc := B.cell
  cases hx : usesB m.toND false false false false true false
  all_goals
    go_wp2_with fail
    all_goals go_ret
    all_goals exact ⟨ret_bool (by simp_all <;> omega), (Onw.alloc _ _).trans hb1⟩

set_option maxHeartbeats 1000000 in
theorem fits_upForm (m : NM) (p : Int) (kk : Option Addr) (kn kc : Nat) (w : World) :
    Calls Tryz.prog 113 #[.agg #[.int .i64 p, .int .i64 m.kind, .int .i64 m.line, .int .i64 m.op, .int .i64 m.num, .float .f64 m.flt, .string m.str, .slice m.ra m.nr m.rc, .slice m.ka m.nk m.kc, .slice kk kn kc]] w fun e w' => e = .returned (.bool (usesB m.toND false false false false true false && ((m.nr : Int) == 1))) ∧ Onw w w' := by
  go_enter Tryz.func113, Tryz.ntmps113
  go_wp2_with fail
  refine (usesOnly_any m p kk kn kc 16 _ false false false false true false (by simp)).mono ?_
  rintro e w1 ⟨rfl, hb1⟩
  have B := (Blk.new w 105 #[.int .i64 p, .int .i64 m.kind, .int .i64 m.line, .int .i64 m.op, .int .i64 m.num, .float .f64 m.flt, .string m.str, .slice m.ra m.nr m.rc, .slice m.ka m.nk m.kc, .slice kk kn kc]).onw hb1
  have bc := B.cell
  cases hx : usesB m.toND false false false false true false
  all_goals
    go_wp2_with fail
    all_goals go_ret
    all_goals exact ⟨ret_bool (by simp_all <;> omega), (Onw.alloc _ _).trans hb1⟩

set_option maxHeartbeats 1000000 in
theorem fits_fnForm (m : NM) (p : Int) (kk : Option Addr) (kn kc : Nat) (w : World) :
    Calls Tryz.prog 103 #[.agg #[.int .i64 p, .int .i64 m.kind, .int .i64 m.line, .int .i64 m.op, .int .i64 m.num, .float .f64 m.flt, .string m.str, .slice m.ra m.nr m.rc, .slice m.ka m.nk m.kc, .slice kk kn kc]] w fun e w' => e = .returned (.bool (usesB m.toND false false false false true false && ((m.nr : Int) == 1))) ∧ Onw w w' := by
  go_enter Tryz.func103, Tryz.ntmps103
  go_wp2_with fail
  refine (usesOnly_any m p kk kn kc 16 _ false false false false true false (by simp)).mono ?_
  rintro e w1 ⟨rfl, hb1⟩
  have B := (Blk.new w 92 #[.int .i64 p, .int .i64 m.kind, .int .i64 m.line, .int .i64 m.op, .int .i64 m.num, .float .f64 m.flt, .string m.str, .slice m.ra m.nr m.rc, .slice m.ka m.nk m.kc, .slice kk kn kc]).onw hb1
  have bc := B.cell
  cases hx : usesB m.toND false false false false true false
  all_goals
    go_wp2_with fail
    all_goals go_ret
    all_goals exact ⟨ret_bool (by simp_all <;> omega), (Onw.alloc _ _).trans hb1⟩

set_option maxHeartbeats 1000000 in
theorem fits_builtinForm (m : NM) (p : Int) (kk : Option Addr) (kn kc : Nat) (w : World) :
    Calls Tryz.prog 129 #[.agg #[.int .i64 p, .int .i64 m.kind, .int .i64 m.line, .int .i64 m.op, .int .i64 m.num, .float .f64 m.flt, .string m.str, .slice m.ra m.nr m.rc, .slice m.ka m.nk m.kc, .slice kk kn kc]] w fun e w' => e = .returned (.bool (usesB m.toND false true false false false false && (decide (0 ≤ m.num) && decide (m.num < 15)))) ∧ Onw w w' := by
  go_enter Tryz.func129, Tryz.ntmps129
  go_wp2_with fail
  refine (usesOnly_any m p kk kn kc 2 _ false true false false false false (by simp)).mono ?_
  rintro e w1 ⟨rfl, hb1⟩
  have B := (Blk.new w 153 #[.int .i64 p, .int .i64 m.kind, .int .i64 m.line, .int .i64 m.op, .int .i64 m.num, .float .f64 m.flt, .string m.str, .slice m.ra m.nr m.rc, .slice m.ka m.nk m.kc, .slice kk kn kc]).onw hb1
  have bc := B.cell
  cases hx : usesB m.toND false true false false false false
  all_goals
    go_wp2_with fail
    all_goals go_ret
    all_goals exact ⟨ret_bool (by simp_all <;> omega), (Onw.alloc _ _).trans hb1⟩

set_option maxHeartbeats 1000000 in
theorem fits_blockForm (m : NM) (p : Int) (kk : Option Addr) (kn kc : Nat) (kf : Nat → Int) (w : World) (hn : kn ≤ 1048576) (hk : IntsAt w kk kn kf) :
    Calls Tryz.prog 117 #[.agg #[.int .i64 p, .int .i64 m.kind, .int .i64 m.line, .int .i64 m.op, .int .i64 m.num, .float .f64 m.flt, .string m.str, .slice m.ra m.nr m.rc, .slice m.ka m.nk m.kc, .slice kk kn kc]] w fun e w' => e = .returned (.bool (usesB m.toND false false false false false true && allB (fun i => classB 0 (kf i)) 0 kn)) ∧ Onw w w' := by
  go_enter Tryz.func117, Tryz.ntmps117
  go_wp2_with fail
  refine (usesOnly_any m p kk kn kc 32 _ false false false false false true (by simp)).mono ?_
  rintro e w1 ⟨rfl, hb1⟩
  have B := (Blk.new w 125 #[.int .i64 p, .int .i64 m.kind, .int .i64 m.line, .int .i64 m.op, .int .i64 m.num, .float .f64 m.flt, .string m.str, .slice m.ra m.nr m.rc, .slice m.ka m.nk m.kc, .slice kk kn kc]).onw hb1
  have bc := B.cell
  cases hx : usesB m.toND false false false false false true
  · go_wp2_with fail
    go_ret
    exact ⟨ret_bool (by first | rfl | (rw [hx]; rfl)), (Onw.alloc _ _).trans hb1⟩
  · go_wp2_with fail
    refine (hasAll_any _ _ _ _ kf _ (by omega) (by omega) hn (by exact hk.onw ((Onw.alloc _ _).trans hb1))).mono ?_
    rintro e w2 ⟨rfl, rfl⟩
    go_wp2_with fail
    go_ret
    exact ⟨ret_bool (by first | rfl | (rw [hx]; rfl)), (Onw.alloc _ _).trans hb1⟩

set_option maxHeartbeats 1000000 in
theorem fits_returnForm (m : NM) (p : Int) (kk : Option Addr) (kn kc : Nat) (kf : Nat → Int) (w : World) (hn : kn ≤ 1048576) (hk : IntsAt w kk kn kf) :
    Calls Tryz.prog 122 #[.agg #[.int .i64 p, .int .i64 m.kind, .int .i64 m.line, .int .i64 m.op, .int .i64 m.num, .float .f64 m.flt, .string m.str, .slice m.ra m.nr m.rc, .slice m.ka m.nk m.kc, .slice kk kn kc]] w fun e w' => e = .returned (.bool (usesB m.toND false false false false false true && allB (fun i => classB 1 (kf i)) 0 kn)) ∧ Onw w w' := by
  go_enter Tryz.func122, Tryz.ntmps122
  go_wp2_with fail
  refine (usesOnly_any m p kk kn kc 32 _ false false false false false true (by simp)).mono ?_
  rintro e w1 ⟨rfl, hb1⟩
  have B := (Blk.new w 147 #[.int .i64 p, .int .i64 m.kind, .int .i64 m.line, .int .i64 m.op, .int .i64 m.num, .float .f64 m.flt, .string m.str, .slice m.ra m.nr m.rc, .slice m.ka m.nk m.kc, .slice kk kn kc]).onw hb1
  have bc := B.cell
  cases hx : usesB m.toND false false false false false true
  · go_wp2_with fail
    go_ret
    exact ⟨ret_bool (by first | rfl | (rw [hx]; rfl)), (Onw.alloc _ _).trans hb1⟩
  · go_wp2_with fail
    refine (hasAll_any _ _ _ _ kf _ (by omega) (by omega) hn (by exact hk.onw ((Onw.alloc _ _).trans hb1))).mono ?_
    rintro e w2 ⟨rfl, rfl⟩
    go_wp2_with fail
    go_ret
    exact ⟨ret_bool (by first | rfl | (rw [hx]; rfl)), (Onw.alloc _ _).trans hb1⟩

set_option maxHeartbeats 1000000 in
theorem fits_letForm (m : NM) (p : Int) (kk : Option Addr) (kn kc : Nat) (kf : Nat → Int) (w : World) (hn : kn ≤ 1048576) (hk : IntsAt w kk kn kf) :
    Calls Tryz.prog 105 #[.agg #[.int .i64 p, .int .i64 m.kind, .int .i64 m.line, .int .i64 m.op, .int .i64 m.num, .float .f64 m.flt, .string m.str, .slice m.ra m.nr m.rc, .slice m.ka m.nk m.kc, .slice kk kn kc]] w fun e w' => e = .returned (.bool (usesB m.toND false false false false true true && decide (1 ≤ (m.nr : Int)) && allB (fun i => classB 1 (kf i)) 0 kn)) ∧ Onw w w' := by
  go_enter Tryz.func105, Tryz.ntmps105
  go_wp2_with fail
  refine (usesOnly_any m p kk kn kc 48 _ false false false false true true (by simp)).mono ?_
  rintro e w1 ⟨rfl, hb1⟩
  have B := (Blk.new w 97 #[.int .i64 p, .int .i64 m.kind, .int .i64 m.line, .int .i64 m.op, .int .i64 m.num, .float .f64 m.flt, .string m.str, .slice m.ra m.nr m.rc, .slice m.ka m.nk m.kc, .slice kk kn kc]).onw hb1
  have bc := B.cell
  cases hx : usesB m.toND false false false false true true
  · go_wp2_with fail
    go_ret
    exact ⟨ret_bool (by first | rfl | (rw [hx]; rfl)), (Onw.alloc _ _).trans hb1⟩
  · by_cases hy : 1 ≤ (m.nr : Int)
    · have dy : Hid (decide (1 ≤ (m.nr : Int)) = true) := decide_eq_true hy
      go_wp2_with fail
      refine (hasAll_any _ _ _ _ kf _ (by omega) (by omega) hn (by exact hk.onw ((Onw.alloc _ _).trans hb1))).mono ?_
      rintro e w2 ⟨rfl, rfl⟩
      go_wp2_with fail
      go_ret
      exact ⟨ret_bool (by first | rfl | (rw [dy.out]; rfl) | (rw [hx, dy.out]; rfl)), (Onw.alloc _ _).trans hb1⟩
    · have dy : Hid (decide (1 ≤ (m.nr : Int)) = false) := decide_eq_false hy
      go_wp2_with fail
      go_ret
      exact ⟨ret_bool (by first | rfl | (rw [dy.out]; rfl) | (rw [hx, dy.out]; rfl)), (Onw.alloc _ _).trans hb1⟩

set_option maxHeartbeats 1000000 in
theorem fits_callForm (m : NM) (p : Int) (kk : Option Addr) (kn kc : Nat) (kf : Nat → Int) (w : World) (hn : kn ≤ 1048576) (hk : IntsAt w kk kn kf) :
    Calls Tryz.prog 133 #[.agg #[.int .i64 p, .int .i64 m.kind, .int .i64 m.line, .int .i64 m.op, .int .i64 m.num, .float .f64 m.flt, .string m.str, .slice m.ra m.nr m.rc, .slice m.ka m.nk m.kc, .slice kk kn kc]] w fun e w' => e = .returned (.bool (usesB m.toND false false false false false true && decide (1 ≤ (kn : Int)) && allB (fun i => classB 1 (kf i)) 0 kn)) ∧ Onw w w' := by
  go_enter Tryz.func133, Tryz.ntmps133
  go_wp2_with fail
  refine (usesOnly_any m p kk kn kc 32 _ false false false false false true (by simp)).mono ?_
  rintro e w1 ⟨rfl, hb1⟩
  have B := (Blk.new w 157 #[.int .i64 p, .int .i64 m.kind, .int .i64 m.line, .int .i64 m.op, .int .i64 m.num, .float .f64 m.flt, .string m.str, .slice m.ra m.nr m.rc, .slice m.ka m.nk m.kc, .slice kk kn kc]).onw hb1
  have bc := B.cell
  cases hx : usesB m.toND false false false false false true
  · go_wp2_with fail
    go_ret
    exact ⟨ret_bool (by first | rfl | (rw [hx]; rfl)), (Onw.alloc _ _).trans hb1⟩
  · by_cases hy : 1 ≤ (kn : Int)
    · have dy : Hid (decide (1 ≤ (kn : Int)) = true) := decide_eq_true hy
      go_wp2_with fail
      refine (hasAll_any _ _ _ _ kf _ (by omega) (by omega) hn (by exact hk.onw ((Onw.alloc _ _).trans hb1))).mono ?_
      rintro e w2 ⟨rfl, rfl⟩
      go_wp2_with fail
      go_ret
      exact ⟨ret_bool (by first | rfl | (rw [dy.out]; rfl) | (rw [hx, dy.out]; rfl)), (Onw.alloc _ _).trans hb1⟩
    · have dy : Hid (decide (1 ≤ (kn : Int)) = false) := decide_eq_false hy
      go_wp2_with fail
      go_ret
      exact ⟨ret_bool (by first | rfl | (rw [dy.out]; rfl) | (rw [hx, dy.out]; rfl)), (Onw.alloc _ _).trans hb1⟩
end Go.Proofs.YtnokgdgikdgaeaaGreat
