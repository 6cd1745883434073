import Derived.Test.YtnokgdgikdgaeaaGreatP10
namespace Go.Proofs.YtnokgdgikdgaeaaGreat
open Go.RowKit
attribute [local go_sem] run_store_float

def jumpF (d : FD) (p : Nat → Bool) : Int := optI (findN (fun n => jumpK (d.nd n) && !p n) 0 d.nn)

set_option maxRecDepth 100000 in
set_option maxHeartbeats 2000000 in
theorem jumpFault_any (u : UM) (ab sa : Nat) (fb sb : Nat → Nat) (p q : Nat → Nat → Bool) (ma : Option Addr) (mn mc : Nat) (f : Nat) (w : World) (hf : f < u.nf) (hn : u.nf ≤ 1048576) (hs : (u.fm f).Small) (hnk : ∀ n, n < (u.fm f).nn → ((u.fm f).nm n).nk ≤ 200) (hF : FormsAll w ab u.nf fb u.fm) (hS : SightsAll w sa u.nf sb u.fm p q) :
    Calls Tryz.prog 25 #[.agg #[.slice u.fa u.nf u.fc, .slice (some ⟨ab, 0, none⟩) u.nf u.nf, .slice (some ⟨sa, 0, none⟩) u.nf u.nf, .slice ma mn mc], .int .i64 f] w
      fun e w' => e = .returned (.int .i64 (jumpF (u.fm f).toFD (p f))) ∧ Onw w w' := by
  obtain ⟨nf, fm, ua, uc⟩ := u
  simp only at *
  obtain ⟨h1, h2⟩ := hF f hf
  obtain ⟨t1, t2⟩ := hS f hf
  have s3 := hs.2.2.1
  have zb := cell_lt h1
  have zs := cell_lt t1
  clear hF hS
  have BX : Blk (w.alloc (Obj.cells #[.slice ua nf uc, .slice (some ⟨ab, 0, none⟩) nf nf, .slice (some ⟨sa, 0, none⟩) nf nf, .slice ma mn mc] 44)) w.heap.size 44 #[.slice ua nf uc, .slice (some ⟨ab, 0, none⟩) nf nf, .slice (some ⟨sa, 0, none⟩) nf nf, .slice ma mn mc] := Blk.new _ _ _
  go_enter Tryz.func25, Tryz.ntmps25
  go_wp2_with fail
  go_loopw [15] (fun i wr => ∃ k : Nat, k ≤ (fm f).nn ∧ i = .int .i64 k ∧ Onw w wr ∧ Blk wr w.heap.size 44 #[.slice ua nf uc, .slice (some ⟨ab, 0, none⟩) nf nf, .slice (some ⟨sa, 0, none⟩) nf nf, .slice ma mn mc] ∧ jumpF (fm f).toFD (p f) = optI (findN (fun n => jumpK ((fm f).nm n).toND && !p f n) k ((fm f).nn - k))) (fun i _ => (fm f).nn - (intOf i).toNat)
  case atStart => exact ⟨0, Nat.zero_le _, rfl, Onw.alloc _ _, BX, rfl⟩
  case round =>
    clear BX
    obtain ⟨k, hk, rfl, ob, BX, hq⟩ := hrel
    have HQ : Hid _ := hq
    clear hq
    by_cases hlt : k < (fm f).nn
    · obtain ⟨v, g1, kk, hv, hI, _⟩ := h2 k hlt
      subst hv
      have g1' := cell_onw ob g1
      have y0 := cell_onw ob (t2 k hlt).1
      have t1' := cell_onw ob t1
      have bx := BX.cell
      have zx := BX.lt
      have z1 := cell_lt g1'
      have z2 := cell_lt y0
      have z3 := cell_lt t1'
      have nk2 := hnk k hlt
      have st : Hid (findN (fun n => jumpK ((fm f).nm n).toND && !p f n) k ((fm f).nn - k) = if (jumpK ((fm f).nm k).toND && !p f k) = true then some k else findN (fun n => jumpK ((fm f).nm n).toND && !p f n) (k + 1) ((fm f).nn - (k + 1))) := by
        show _ = _
        rw [show (fm f).nn - k = ((fm f).nn - (k + 1)) + 1 from by omega]; rfl
      clear g1 hI
      by_cases hkq : ((fm f).nm k).kind = 9 ∨ ((fm f).nm k).kind = 10
      · have asl := as_jump_yes (d := ((fm f).nm k).toND) nk2 hkq
        have hj : Hid (jumpK ((fm f).nm k).toND = true) := by show _ = _; simp only [jumpK]; rcases hkq with h | h <;> simp [h]
        clear hkq
        cases hp : p f k
        · rw [hp] at y0
          go_wp2_with fail
          go_quiet (fail)
          go_wp2_with fail
          go_ret
          exact ⟨ret_int (by rw [HQ.out, st.out, hj.out, hp]; rfl), below_drewN (ob.trans (Onw.alloc _ _)) _⟩
        · rw [hp] at y0
          go_wp2_with fail
          go_quiet (fail)
          go_wp2_with fail
          go_roundw
          case rel => exact ⟨k + 1, by omega, by go_num, below_drewN (ob.trans (Onw.alloc _ _)) _, BX.onw (below_drewN (Onw.alloc _ _) _), by rw [HQ.out, st.out, hj.out, hp]; rfl⟩
          case measure => simp [intOf]; omega
      · have asl := as_jump_no (d := ((fm f).nm k).toND) nk2 (by omega)
        have hj : Hid (jumpK ((fm f).nm k).toND = false) := by show _ = _; rw [← Bool.not_eq_true]; simp only [jumpK]; simpa using hkq
        clear hkq
        go_wp2_with fail
        go_quiet (fail)
        go_wp2_with fail
        go_roundw
        case rel => exact ⟨k + 1, by omega, by go_num, below_drewN (ob.trans (Onw.alloc _ _)) _, BX.onw (below_drewN (Onw.alloc _ _) _), by rw [HQ.out, st.out, hj.out]; rfl⟩
        case measure => simp [intOf]; omega
    · have st : Hid (findN (fun n => jumpK ((fm f).nm n).toND && !p f n) k ((fm f).nn - k) = none) := by
        show _ = _
        rw [show (fm f).nn - k = 0 from by omega]; rfl
      go_wp2_with fail
      go_ret
      exact ⟨ret_int (by rw [HQ.out, st.out]; rfl), ob⟩
end Go.Proofs.YtnokgdgikdgaeaaGreat

namespace Go.Proofs.YtnokgdgikdgaeaaGreat
open Go.RowKit
attribute [local go_sem] run_store_float

def unmF (s : MK) (f : Nat) : Int := if f = 0 then -1 else if (s f).isSome then -1 else 0

set_option maxRecDepth 100000 in
set_option maxHeartbeats 2000000 in
theorem unmadeFault_any (fa ab sa : Option Addr) (nf fc an ac sn sc mb : Nat) (s : MK) (f : Nat) (w : World) (hf : f < nf) (hM : MakersAt w mb nf s) :
    Calls Tryz.prog 27 #[.agg #[.slice fa nf fc, .slice ab an ac, .slice sa sn sc, .slice (some ⟨mb, 0, none⟩) nf nf], .int .i64 f] w
      fun e w' => e = .returned (.int .i64 (unmF s f)) ∧ Onw w w' := by
  have m0 := (hM f hf).1
  have zm := cell_lt m0
  have BX : Blk (w.alloc (Obj.cells #[.slice fa nf fc, .slice ab an ac, .slice sa sn sc, .slice (some ⟨mb, 0, none⟩) nf nf] 44)) w.heap.size 44 #[.slice fa nf fc, .slice ab an ac, .slice sa sn sc, .slice (some ⟨mb, 0, none⟩) nf nf] := Blk.new _ _ _
  by_cases h0 : f = 0
  · subst h0
    have u0 : Hid (unmF s 0 = -1) := rfl
    go_enter Tryz.func27, Tryz.ntmps27
    go_wp2_with fail
    go_ret
    exact ⟨ret_int u0.out.symm, Onw.alloc _ _⟩
  · have p0 : (0 : Int) < (f : Int) := by omega
    cases hx : (s f).isSome
    · have u0 : Hid (unmF s f = 0) := by show _ = _; simp [unmF, h0, hx]
      rw [hx] at m0
      go_enter Tryz.func27, Tryz.ntmps27
      go_wp2_with fail
      go_ret
      exact ⟨ret_int u0.out.symm, Onw.alloc _ _⟩
    · have u0 : Hid (unmF s f = -1) := by show _ = _; simp [unmF, h0, hx]
      rw [hx] at m0
      go_enter Tryz.func27, Tryz.ntmps27
      go_wp2_with fail
      go_ret
      exact ⟨ret_int u0.out.symm, Onw.alloc _ _⟩

/-- Code 8 of a node, as the program asks it. -/
def madeOk (d : FD) (f : Nat) (s : MK) (q : Nat → Bool) (n : Nat) : Bool :=
  if (d.nd n).kind = 37 then d.rest else if (d.nd n).kind = 36 then (decide ((f : Int) < (d.nd n).rf 0) && decide (s ((d.nd n).rf 0).toNat = some (f, n)) && q n) else true
def madeF (d : FD) (f : Nat) (s : MK) (q : Nat → Bool) : Int := optI (findN (fun n => !madeOk d f s q n) 0 d.nn)

set_option maxRecDepth 100000 in
set_option maxHeartbeats 4000000 in
theorem madeFault_any (u : UM) (ab sa mb : Nat) (fb sb : Nat → Nat) (p q : Nat → Nat → Bool) (s : MK) (f : Nat) (w : World) (hf : f < u.nf) (hn : u.nf ≤ 1048576) (hs : (u.fm f).Small) (hnk : ∀ n, n < (u.fm f).nn → ((u.fm f).nm n).nk ≤ 200) (hr : ∀ n, n < (u.fm f).nn → ((u.fm f).nm n).kind = 36 → ((u.fm f).nm n).nr = 1 ∧ 0 ≤ ((u.fm f).nm n).rf 0 ∧ ((u.fm f).nm n).rf 0 < u.nf) (ha : u.At w) (hF : FormsAll w ab u.nf fb u.fm) (hS : SightsAll w sa u.nf sb u.fm p q) (hM : MakersAt w mb u.nf s) :
    Calls Tryz.prog 26 #[.agg #[.slice u.fa u.nf u.fc, .slice (some ⟨ab, 0, none⟩) u.nf u.nf, .slice (some ⟨sa, 0, none⟩) u.nf u.nf, .slice (some ⟨mb, 0, none⟩) u.nf u.nf], .int .i64 f] w
      fun e w' => e = .returned (.int .i64 (madeF (u.fm f).toFD f s (q f))) ∧ Onw w w' := by
  obtain ⟨nf, fm, ua, uc⟩ := u
  simp only at *
  obtain ⟨h1, h2⟩ := hF f hf
  obtain ⟨t1, t2⟩ := hS f hf
  obtain ⟨b, off, hua, hc⟩ := ha.1 (by show 0 < nf; omega)
  simp only at hua
  subst hua
  have c3 := (hc f hf).c3
  have aN := (ha.2 f hf).2.2.2
  simp only at c3 aN
  have s3 := hs.2.2.1
  have zb := cell_lt h1
  have zs := cell_lt t1
  have zc := cell_lt c3
  clear hF hS hc ha
  have HR : Hid _ := hr
  clear hr
  have BX : Blk (w.alloc (Obj.cells #[.slice (some ⟨b, off, none⟩) nf uc, .slice (some ⟨ab, 0, none⟩) nf nf, .slice (some ⟨sa, 0, none⟩) nf nf, .slice (some ⟨mb, 0, none⟩) nf nf] 44)) w.heap.size 44 #[.slice (some ⟨b, off, none⟩) nf uc, .slice (some ⟨ab, 0, none⟩) nf nf, .slice (some ⟨sa, 0, none⟩) nf nf, .slice (some ⟨mb, 0, none⟩) nf nf] := Blk.new _ _ _
  go_enter Tryz.func26, Tryz.ntmps26
  go_wp2_with fail
  go_loopw [17] (fun i wr => ∃ k : Nat, k ≤ (fm f).nn ∧ i = .int .i64 k ∧ Onw w wr ∧ Blk wr w.heap.size 44 #[.slice (some ⟨b, off, none⟩) nf uc, .slice (some ⟨ab, 0, none⟩) nf nf, .slice (some ⟨sa, 0, none⟩) nf nf, .slice (some ⟨mb, 0, none⟩) nf nf] ∧ madeF (fm f).toFD f s (q f) = optI (findN (fun n => !madeOk (fm f).toFD f s (q f) n) k ((fm f).nn - k))) (fun i _ => (fm f).nn - (intOf i).toNat)
  case atStart => exact ⟨0, Nat.zero_le _, rfl, Onw.alloc _ _, BX, rfl⟩
  case round =>
    clear BX
    obtain ⟨k, hk, rfl, ob, BX, hq⟩ := hrel
    have HQ : Hid _ := hq
    clear hq
    by_cases hlt : k < (fm f).nn
    · obtain ⟨v, g1, kk, hv, hI, _⟩ := h2 k hlt
      subst hv
      have g1' := cell_onw ob g1
      have y1 := cell_onw ob (t2 k hlt).2
      have t1' := cell_onw ob t1
      have c3' := cell_onw ob c3
      have bx := BX.cell
      have zx := BX.lt
      have z1 := cell_lt g1'
      have z2 := cell_lt y1
      have z3 := cell_lt t1'
      have z4 := cell_lt c3'
      have nk2 := hnk k hlt
      have st : Hid (findN (fun n => !madeOk (fm f).toFD f s (q f) n) k ((fm f).nn - k) = if (!madeOk (fm f).toFD f s (q f) k) = true then some k else findN (fun n => !madeOk (fm f).toFD f s (q f) n) (k + 1) ((fm f).nn - (k + 1))) := by
        show _ = _
        rw [show (fm f).nn - k = ((fm f).nn - (k + 1)) + 1 from by omega]; rfl
      have mo : Hid (madeOk (fm f).toFD f s (q f) k = if ((fm f).nm k).kind = 37 then (fm f).rest else if ((fm f).nm k).kind = 36 then (decide ((f : Int) < ((fm f).nm k).rf 0) && decide (s (((fm f).nm k).rf 0).toNat = some (f, k)) && q f k) else true) := rfl
      clear g1 hI
      by_cases h37 : ((fm f).nm k).kind = 37
      · have a1 := as_rest_yes (d := ((fm f).nm k).toND) nk2 h37
        have mo2 : Hid (madeOk (fm f).toFD f s (q f) k = (fm f).rest) := by show _ = _; rw [mo.out, if_pos h37]
        clear h37
        cases hp : (fm f).rest
        · rw [hp] at c3'
          go_wp2_with fail
          go_ret
          exact ⟨ret_int (by rw [HQ.out, st.out, mo2.out, hp]; rfl), ob.trans (Onw.alloc _ _)⟩
        · rw [hp] at c3'
          go_wp2_with fail
          go_roundw
          case rel => exact ⟨k + 1, by omega, by go_num, ob.trans (Onw.alloc _ _), BX.onw (Onw.alloc _ _), by rw [HQ.out, st.out, mo2.out, hp]; rfl⟩
          case measure => simp [intOf]; omega
      · have a1 := as_rest_no (d := ((fm f).nm k).toND) nk2 h37
        by_cases h36 : ((fm f).nm k).kind = 36
        · have a2 := as_fn_yes (d := ((fm f).nm k).toND) nk2 h36
          have mo2 : Hid (madeOk (fm f).toFD f s (q f) k = (decide ((f : Int) < ((fm f).nm k).rf 0) && decide (s (((fm f).nm k).rf 0).toNat = some (f, k)) && q f k)) := by show _ = _; rw [mo.out, if_neg h37, if_pos h36]
          obtain ⟨hnr, r1, r2⟩ := HR.out k hlt h36
          obtain ⟨rb, ro, hra, hcc⟩ := (aN k hlt).1.onw ob (by omega)
          have r0 := hcc 0 (by omega)
          simp only [Nat.add_zero] at r0
          have zr := cell_lt r0
          obtain ⟨g, hg⟩ := Int.eq_ofNat_of_zero_le r1
          rw [hra, hnr] at g1'
          have mo3 : Hid (madeOk (fm f).toFD f s (q f) k = (decide ((f : Int) < (g : Int)) && decide (s g = some (f, k)) && q f k)) := by show _ = _; rw [mo2.out, hg]; rfl
          rw [hg] at r0 r2
          have hgn : g < nf := by omega
          obtain ⟨m0, m1, m2⟩ := hM.onw ob g hgn
          have zm := cell_lt m0
          clear hcc hra hnr r1 r2 hg h36 h37 mo mo2
          by_cases hfg : f < g
          · have hfg' : (f : Int) < (g : Int) := by omega
            have D1 : Hid (decide ((f : Int) < (g : Int)) = true) := by show _ = _; simp; omega
            cases hsg : s g with
            | none =>
              have D2 : Hid (decide (s g = some (f, k)) = false) := by show _ = _; rw [hsg]; rfl
              rw [hsg] at m0 m1 m2
              simp only [Option.isSome, mFn, mNd] at m0 m1 m2
              clear hsg
              go_wp2_with fail
              go_ret
              exact ⟨ret_int (by rw [HQ.out, st.out, mo3.out, D1.out, D2.out]; rfl), ob.trans (Onw.alloc _ _)⟩
            | some x =>
              obtain ⟨xf, xn⟩ := x
              rw [hsg] at m0 m1 m2
              simp only [Option.isSome, mFn, mNd] at m0 m1 m2
              by_cases e1 : xf = f
              · by_cases e2 : xn = k
                · subst e1
                  subst e2
                  have D2 : Hid (decide (s g = some (xf, xn)) = true) := by show _ = _; rw [hsg]; simp
                  clear hsg
                  cases hy : q xf xn
                  · rw [hy] at y1
                    go_wp2_with fail
                    go_ret
                    exact ⟨ret_int (by rw [HQ.out, st.out, mo3.out, D1.out, D2.out, hy]; rfl), ob.trans (Onw.alloc _ _)⟩
                  · rw [hy] at y1
                    go_wp2_with fail
                    go_roundw
                    case rel => exact ⟨xn + 1, by omega, by go_num, ob.trans (Onw.alloc _ _), BX.onw (Onw.alloc _ _), by rw [HQ.out, st.out, mo3.out, D1.out, D2.out, hy]; rfl⟩
                    case measure => simp [intOf]; omega
                · have D2 : Hid (decide (s g = some (f, k)) = false) := by show _ = _; rw [hsg]; simp [e2]
                  have e2' : ((xn : Int) == (k : Int)) = false := by simp; omega
                  have e2'' : ¬ ((xn : Int) = (k : Int)) := by omega
                  subst e1
                  clear hsg
                  go_wp2_with fail
                  go_ret
                  exact ⟨ret_int (by rw [HQ.out, st.out, mo3.out, D1.out, D2.out]; rfl), ob.trans (Onw.alloc _ _)⟩
              · have D2 : Hid (decide (s g = some (f, k)) = false) := by show _ = _; rw [hsg]; simp [e1]
                have e1' : ((xf : Int) == (f : Int)) = false := by simp; omega
                have e1'' : ¬ ((xf : Int) = (f : Int)) := by omega
                clear hsg
                go_wp2_with fail
                go_ret
                exact ⟨ret_int (by rw [HQ.out, st.out, mo3.out, D1.out, D2.out]; rfl), ob.trans (Onw.alloc _ _)⟩
          · have hfg' : ¬ (f : Int) < (g : Int) := by omega
            have D1 : Hid (decide ((f : Int) < (g : Int)) = false) := by show _ = _; simp; omega
            go_wp2_with fail
            go_ret
            exact ⟨ret_int (by rw [HQ.out, st.out, mo3.out, D1.out]; rfl), ob.trans (Onw.alloc _ _)⟩
        · have a2 := as_fn_no (d := ((fm f).nm k).toND) nk2 h36
          have mo2 : Hid (madeOk (fm f).toFD f s (q f) k = true) := by show _ = _; rw [mo.out, if_neg h37, if_neg h36]
          clear h36 h37
          go_wp2_with fail
          go_roundw
          case rel => exact ⟨k + 1, by omega, by go_num, ob, BX, by rw [HQ.out, st.out, mo2.out]; rfl⟩
          case measure => simp [intOf]; omega
    · have st : Hid (findN (fun n => !madeOk (fm f).toFD f s (q f) n) k ((fm f).nn - k) = none) := by
        show _ = _
        rw [show (fm f).nn - k = 0 from by omega]; rfl
      go_wp2_with fail
      go_ret
      exact ⟨ret_int (by rw [HQ.out, st.out]; rfl), ob⟩
end Go.Proofs.YtnokgdgikdgaeaaGreat

namespace Go.Proofs.YtnokgdgikdgaeaaGreat
open Go.RowKit
attribute [local go_sem] run_store_float

def decK (k : Int) : Bool := k == 2 || k == 7 || k == 8 || k == 12
/-- Code 6 of a node, as the program asks it: whether it is right, and what is declared then. -/
def refs1 (u : UD) (d : FD) (q : Nat → Bool) (n : Nat) (dec : Nat → Int) : Bool × (Nat → Int) :=
  if decK (d.nd n).kind = true then decL d.nv (d.nd n).rf dec 0 (d.nd n).nr
  else if (d.nd n).kind = 26 then (q n, dec)
  else if (d.nd n).kind = 27 then (withinB ((d.nd n).rf 0) d.nu, dec)
  else if (d.nd n).kind = 36 then (withinB ((d.nd n).rf 0) u.nf, dec)
  else (true, dec)
def find6F (u : UD) (d : FD) (q : Nat → Bool) (dec : Nat → Int) (n : Nat) : Nat → Option Nat
  | 0 => none
  | m + 1 => if (refs1 u d q n dec).1 = true then find6F u d q (refs1 u d q n dec).2 (n + 1) m else some n
def dec0 (params : Int) : Nat → Int := fun v => if (v : Int) < params then 1 else 0
def refsF (u : UD) (d : FD) (q : Nat → Bool) : Int := optI (find6F u d q (dec0 d.params) 0 d.nn)

set_option maxRecDepth 100000 in
set_option maxHeartbeats 4000000 in
theorem refsFault_any (u : UM) (ab sa : Nat) (fb sb : Nat → Nat) (p q : Nat → Nat → Bool) (ma : Option Addr) (mn mc : Nat) (f : Nat) (w : World) (hf : f < u.nf) (hn : u.nf ≤ 1048576) (hs : (u.fm f).Small) (hnk : ∀ n, n < (u.fm f).nn → ((u.fm f).nm n).nk ≤ 200) (hp0 : 0 ≤ (u.fm f).params) (hp1 : (u.fm f).params ≤ (u.fm f).nv) (hr : ∀ n, n < (u.fm f).nn → ((u.fm f).nm n).kind = 27 ∨ ((u.fm f).nm n).kind = 36 → ((u.fm f).nm n).nr = 1) (ha : u.At w) (hF : FormsAll w ab u.nf fb u.fm) (hS : SightsAll w sa u.nf sb u.fm p q) :
    Calls Tryz.prog 24 #[.agg #[.slice u.fa u.nf u.fc, .slice (some ⟨ab, 0, none⟩) u.nf u.nf, .slice (some ⟨sa, 0, none⟩) u.nf u.nf, .slice ma mn mc], .int .i64 f] w
      fun e w' => e = .returned (.int .i64 (refsF u.toUD (u.fm f).toFD (q f))) ∧ Onw w w' := by
  obtain ⟨nf, fm, ua, uc⟩ := u
  simp only at *
  obtain ⟨h1, h2⟩ := hF f hf
  obtain ⟨t1, t2⟩ := hS f hf
  obtain ⟨b, off, hua, hc⟩ := ha.1 (by show 0 < nf; omega)
  simp only at hua
  subst hua
  obtain ⟨c0, c1, c2, c3, c4, c5, c6⟩ := hc f hf
  have aN := (ha.2 f hf).2.2.2
  simp only at c0 c1 c2 c3 c4 c5 c6 aN
  obtain ⟨s1, s2, s3, s4⟩ := hs
  have HS4 : Hid _ := s4
  have HR : Hid _ := hr
  have zb := cell_lt h1
  have zs := cell_lt t1
  have zc := cell_lt c3
  clear hF hS hc ha hr s4
  obtain ⟨P, hP⟩ := Int.eq_ofNat_of_zero_le hp0
  have HP : Hid _ := hP
  rw [hP] at c2
  have hP1 : P ≤ (fm f).nv := by omega
  clear hP hp0 hp1
  have hmk := run_make_ints (fm f).nv s1
  have FIN : Hid (refsF (UM.toUD ⟨nf, fm, some ⟨b, off, none⟩, uc⟩) (fm f).toFD (q f) = optI (find6F (UM.toUD ⟨nf, fm, some ⟨b, off, none⟩, uc⟩) (fm f).toFD (q f) (dec0 P) 0 (fm f).nn)) := by
    show refsF _ _ _ = _
    have e : (fm f).toFD.params = (P : Int) := HP.out
    unfold refsF; rw [e]; rfl
  go_enter Tryz.func24, Tryz.ntmps24
  go_wp2_with fail
  have O1 := Onw.alloc w (Obj.cells #[.slice (some ⟨b, off, none⟩) nf uc, .slice (some ⟨ab, 0, none⟩) nf nf, .slice (some ⟨sa, 0, none⟩) nf nf, .slice ma mn mc] 44)
  have O2 := Onw.alloc (w.alloc (Obj.cells #[.slice (some ⟨b, off, none⟩) nf uc, .slice (some ⟨ab, 0, none⟩) nf nf, .slice (some ⟨sa, 0, none⟩) nf nf, .slice ma mn mc] 44)) (Obj.cells #[.string (fm f).name, .int .i64 (fm f).line, .int .i64 P, .bool (fm f).rest, .slice (fm f).va (fm f).nv (fm f).vc, .slice (fm f).ua (fm f).nu (fm f).uc, .slice (fm f).na (fm f).nn (fm f).nc] 61)
  have O3 := Onw.alloc ((w.alloc (Obj.cells #[.slice (some ⟨b, off, none⟩) nf uc, .slice (some ⟨ab, 0, none⟩) nf nf, .slice (some ⟨sa, 0, none⟩) nf nf, .slice ma mn mc] 44)).alloc (Obj.cells #[.string (fm f).name, .int .i64 (fm f).line, .int .i64 P, .bool (fm f).rest, .slice (fm f).va (fm f).nv (fm f).vc, .slice (fm f).ua (fm f).nu (fm f).uc, .slice (fm f).na (fm f).nn (fm f).nc] 61)) (Obj.cells (madeCells #[.int .i64 0] (fm f).nv) 3)
  have N1 := ((Blk.new w 44 #[.slice (some ⟨b, off, none⟩) nf uc, .slice (some ⟨ab, 0, none⟩) nf nf, .slice (some ⟨sa, 0, none⟩) nf nf, .slice ma mn mc]).onw O2).onw O3
  have N2 := (Blk.new (w.alloc (Obj.cells #[.slice (some ⟨b, off, none⟩) nf uc, .slice (some ⟨ab, 0, none⟩) nf nf, .slice (some ⟨sa, 0, none⟩) nf nf, .slice ma mn mc] 44)) 61 #[.string (fm f).name, .int .i64 (fm f).line, .int .i64 P, .bool (fm f).rest, .slice (fm f).va (fm f).nv (fm f).vc, .slice (fm f).ua (fm f).nu (fm f).uc, .slice (fm f).na (fm f).nn (fm f).nc]).onw O3
  have N3 := Blk.new ((w.alloc (Obj.cells #[.slice (some ⟨b, off, none⟩) nf uc, .slice (some ⟨ab, 0, none⟩) nf nf, .slice (some ⟨sa, 0, none⟩) nf nf, .slice ma mn mc] 44)).alloc (Obj.cells #[.string (fm f).name, .int .i64 (fm f).line, .int .i64 P, .bool (fm f).rest, .slice (fm f).va (fm f).nv (fm f).vc, .slice (fm f).ua (fm f).nu (fm f).uc, .slice (fm f).na (fm f).nn (fm f).nc] 61)) 3 (madeCells #[.int .i64 0] (fm f).nv)
  have O123 := (O1.trans O2).trans O3
  simp only [World.size_alloc] at N2 N3
  clear O1 O2 O3 hmk c0 c1 c2 c3 c4 c5 c6
  generalize ((w.alloc (Obj.cells #[.slice (some ⟨b, off, none⟩) nf uc, .slice (some ⟨ab, 0, none⟩) nf nf, .slice (some ⟨sa, 0, none⟩) nf nf, .slice ma mn mc] 44)).alloc (Obj.cells #[.string (fm f).name, .int .i64 (fm f).line, .int .i64 P, .bool (fm f).rest, .slice (fm f).va (fm f).nv (fm f).vc, .slice (fm f).ua (fm f).nu (fm f).uc, .slice (fm f).na (fm f).nn (fm f).nc] 61)).alloc (Obj.cells (madeCells #[.int .i64 0] (fm f).nv) 3) = w3 at *
  go_loopw [26] (fun i wr => ∃ (j : Nat) (hc : Array Value), j ≤ P ∧ i = .int .i64 j ∧ Onw w wr ∧ Blk wr w.heap.size 44 #[.slice (some ⟨b, off, none⟩) nf uc, .slice (some ⟨ab, 0, none⟩) nf nf, .slice (some ⟨sa, 0, none⟩) nf nf, .slice ma mn mc] ∧ Blk wr (w.heap.size + 1) 61 #[.string (fm f).name, .int .i64 (fm f).line, .int .i64 P, .bool (fm f).rest, .slice (fm f).va (fm f).nv (fm f).vc, .slice (fm f).ua (fm f).nu (fm f).uc, .slice (fm f).na (fm f).nn (fm f).nc] ∧ Blk wr (w.heap.size + 1 + 1) 3 hc ∧ Arr hc (fm f).nv (fun x => if x < j then 1 else 0)) (fun i _ => P - (intOf i).toNat)
  case atStart => exact ⟨0, _, Nat.zero_le _, rfl, O123, N1, N2, N3, ⟨size_madeCells _ _, fun x hx => by simp [made_int (fm f).nv x hx]⟩⟩
  case round =>
    clear O123 N1 N2 N3
    obtain ⟨j, hc, hj, rfl, ob, BX, BF, BD, AD⟩ := hrel
    by_cases hjt : j < P
    · have xh : wr.cell? ⟨w.heap.size + 1 + 1, j, none⟩ = some (.int .i64 0) := by rw [BD.cell, AD.2 j (by omega)]; simp
      have fh := BD.free
      have R : Hid (Arr (hc.setIfInBounds j (.int .i64 1)) (fm f).nv (fun x => if x < j + 1 then 1 else 0)) := by
        refine AD.set j 1 fun x hx => ?_
        by_cases e : x = j
        · subst e; simp
        · simp only [if_neg e]; by_cases e2 : x < j
          · rw [if_pos e2, if_pos (by omega)]
          · rw [if_neg e2, if_neg (by omega)]
      have KK : Hid (∀ y, Kept (· ≠ w.heap.size + 1 + 1) wr (wr.setCell ⟨w.heap.size + 1 + 1, j, none⟩ y)) := fun y => Kept.set (Kept.refl _ _) (by simp) _
      go_wp2_with fail
      go_roundw
      case rel => exact ⟨j + 1, _, by omega, by go_num, below_set ob (by omega) _, BX.kept (KK.out _) (by omega), BF.kept (KK.out _) (by omega), BD.set j _, R.out⟩
      case measure => simp [intOf]; omega
    · have : j = P := by omega
      subst this
      have bx := BX.cell
      have g0 := cell_onw ob h1
      obtain ⟨w0, hw0⟩ : ∃ x, x = wr := ⟨_, rfl⟩
      subst hw0
      have A0 : Arr hc (fm f).nv (dec0 j) := AD.congr fun x hx => by
        unfold dec0
        by_cases e : x < j
        · rw [if_pos e, if_pos (by omega)]
        · rw [if_neg e, if_neg (by omega)]
      go_wp2_with fail
      clear bx g0 AD
      go_loopw [39] (fun i wr => ∃ (k : Nat) (hc : Array Value) (dec : Nat → Int), k ≤ (fm f).nn ∧ i = .int .i64 k ∧ Onw w wr ∧ Blk wr w.heap.size 44 #[.slice (some ⟨b, off, none⟩) nf uc, .slice (some ⟨ab, 0, none⟩) nf nf, .slice (some ⟨sa, 0, none⟩) nf nf, .slice ma mn mc] ∧ Blk wr (w.heap.size + 1) 61 #[.string (fm f).name, .int .i64 (fm f).line, .int .i64 j, .bool (fm f).rest, .slice (fm f).va (fm f).nv (fm f).vc, .slice (fm f).ua (fm f).nu (fm f).uc, .slice (fm f).na (fm f).nn (fm f).nc] ∧ Blk wr (w.heap.size + 1 + 1) 3 hc ∧ Arr hc (fm f).nv dec ∧ find6F (UM.toUD ⟨nf, fm, some ⟨b, off, none⟩, uc⟩) (fm f).toFD (q f) (dec0 j) 0 (fm f).nn = find6F (UM.toUD ⟨nf, fm, some ⟨b, off, none⟩, uc⟩) (fm f).toFD (q f) dec k ((fm f).nn - k)) (fun i _ => (fm f).nn - (intOf i).toNat)
      case atStart => exact ⟨0, hc, _, Nat.zero_le _, rfl, ob, BX, BF, BD, A0, rfl⟩
      case round =>
        clear ob BX BF BD A0
        obtain ⟨k, hc, dec, hk, rfl, ob, BX, BF, BD, AD, hq⟩ := hrel
        have HQ : Hid _ := hq
        clear hq
        by_cases hlt : k < (fm f).nn
        · obtain ⟨v, g1, kk, hv, hI, _⟩ := h2 k hlt
          subst hv
          have g1' := cell_onw ob g1
          have z1 := cell_lt g1'
          have nk2 := hnk k hlt
          have mh := meth_head ((fm f).nm k).toND
          have mfn := field_node
          have mfr := field_refs
          have st : Hid (find6F (UM.toUD ⟨nf, fm, some ⟨b, off, none⟩, uc⟩) (fm f).toFD (q f) dec k ((fm f).nn - k) = if (refs1 (UM.toUD ⟨nf, fm, some ⟨b, off, none⟩, uc⟩) (fm f).toFD (q f) k dec).1 = true then find6F (UM.toUD ⟨nf, fm, some ⟨b, off, none⟩, uc⟩) (fm f).toFD (q f) (refs1 (UM.toUD ⟨nf, fm, some ⟨b, off, none⟩, uc⟩) (fm f).toFD (q f) k dec).2 (k + 1) ((fm f).nn - (k + 1)) else some k) := by
            show _ = _
            rw [show (fm f).nn - k = ((fm f).nn - (k + 1)) + 1 from by omega]; rfl
          have ro : Hid (refs1 (UM.toUD ⟨nf, fm, some ⟨b, off, none⟩, uc⟩) (fm f).toFD (q f) k dec = if decK ((fm f).nm k).kind = true then decL (fm f).nv ((fm f).nm k).rf dec 0 ((fm f).nm k).nr else if ((fm f).nm k).kind = 26 then (q f k, dec) else if ((fm f).nm k).kind = 27 then (withinB (((fm f).nm k).rf 0) (fm f).nu, dec) else if ((fm f).nm k).kind = 36 then (withinB (((fm f).nm k).rf 0) nf, dec) else (true, dec)) := rfl
          clear g1 hI
          have HRO := ro
          by_cases hdk : ((fm f).nm k).kind = 2 ∨ ((fm f).nm k).kind = 7 ∨ ((fm f).nm k).kind = 8 ∨ ((fm f).nm k).kind = 12
          · have r1 : Hid (refs1 (UM.toUD ⟨nf, fm, some ⟨b, off, none⟩, uc⟩) (fm f).toFD (q f) k dec = decL (fm f).nv ((fm f).nm k).rf dec 0 ((fm f).nm k).nr) := by
              show _ = _
              rw [ro.out, if_pos (by unfold decK; rcases hdk with h | h | h | h <;> simp [h])]
            have hnr := (HS4.out k hlt).1
            have hI := (aN k hlt).1
            have hsep : 0 < ((fm f).nm k).nr → ∀ x, ((fm f).nm k).ra = some x → x.block ≠ w.heap.size + 1 + 1 := fun h0 x hx => by
              obtain ⟨b', o', e, hcc⟩ := hI h0
              have hl := cell_lt (hcc 0 h0)
              rw [e] at hx; cases hx
              show b' ≠ _
              omega
            have HSEP : Hid _ := hsep
            clear hsep ro HRO
            rcases hdk with h | h | h | h
            · have a0 := as_let_yes (d := ((fm f).nm k).toND) nk2 (by omega)
              have a1 := as_for_no (d := ((fm f).nm k).toND) nk2 (by omega)
              have a2 := as_each_no (d := ((fm f).nm k).toND) nk2 (by omega)
              have a3 := as_try_no (d := ((fm f).nm k).toND) nk2 (by omega)
              clear h
              go_wp2_with fail
              refine (head_any _ _ _ _ _ _).mono ?_
              rintro e w1 ⟨rfl, O1⟩
              go_wp2_with fail
              refine (declareAll_any (w.heap.size + 1 + 1) (fm f).nv hc dec _ _ _ ((fm f).nm k).rf w1 hnr (BD.onw O1) AD ((hI.onw ob).onw O1) HSEP.out).mono ?_
              rintro e w2 ⟨hc2, rfl, b2, K2, BD2, AD2⟩
              have ow : Onw w w2 := Below.trans (ob.trans O1) (Below.mono b2 (show w.heap.size ≤ w.heap.size + 1 + 1 by omega))
              have BX2 := (BX.onw O1).kept K2 (show w.heap.size ≠ w.heap.size + 1 + 1 by omega)
              have BF2 := (BF.onw O1).kept K2 (show w.heap.size + 1 ≠ w.heap.size + 1 + 1 by omega)
              cases hx : (decL (fm f).nv ((fm f).nm k).rf dec 0 ((fm f).nm k).nr).1
              · go_wp2_with fail
                go_ret
                exact ⟨ret_int (by rw [FIN.out, HQ.out, st.out, r1.out, hx]; rfl), ow⟩
              · go_wp2_with fail
                go_roundw
                case rel => exact ⟨k + 1, hc2, _, by omega, by go_num, ow, BX2, BF2, BD2, AD2, by rw [HQ.out, st.out, r1.out, hx]; rfl⟩
                case measure => simp [intOf]; omega
            · have a0 := as_let_no (d := ((fm f).nm k).toND) nk2 (by omega)
              have a1 := as_for_yes (d := ((fm f).nm k).toND) nk2 (by omega)
              have a2 := as_each_no (d := ((fm f).nm k).toND) nk2 (by omega)
              have a3 := as_try_no (d := ((fm f).nm k).toND) nk2 (by omega)
              clear h
              go_wp2_with fail
              refine (head_any _ _ _ _ _ _).mono ?_
              rintro e w1 ⟨rfl, O1⟩
              go_wp2_with fail
              refine (declareAll_any (w.heap.size + 1 + 1) (fm f).nv hc dec _ _ _ ((fm f).nm k).rf w1 hnr (BD.onw O1) AD ((hI.onw ob).onw O1) HSEP.out).mono ?_
              rintro e w2 ⟨hc2, rfl, b2, K2, BD2, AD2⟩
              have ow : Onw w w2 := Below.trans (ob.trans O1) (Below.mono b2 (show w.heap.size ≤ w.heap.size + 1 + 1 by omega))
              have BX2 := (BX.onw O1).kept K2 (show w.heap.size ≠ w.heap.size + 1 + 1 by omega)
              have BF2 := (BF.onw O1).kept K2 (show w.heap.size + 1 ≠ w.heap.size + 1 + 1 by omega)
              cases hx : (decL (fm f).nv ((fm f).nm k).rf dec 0 ((fm f).nm k).nr).1
              · go_wp2_with fail
                go_ret
                exact ⟨ret_int (by rw [FIN.out, HQ.out, st.out, r1.out, hx]; rfl), ow⟩
              · go_wp2_with fail
                go_roundw
                case rel => exact ⟨k + 1, hc2, _, by omega, by go_num, ow, BX2, BF2, BD2, AD2, by rw [HQ.out, st.out, r1.out, hx]; rfl⟩
                case measure => simp [intOf]; omega
            · have a0 := as_let_no (d := ((fm f).nm k).toND) nk2 (by omega)
              have a1 := as_for_no (d := ((fm f).nm k).toND) nk2 (by omega)
              have a2 := as_each_yes (d := ((fm f).nm k).toND) nk2 (by omega)
              have a3 := as_try_no (d := ((fm f).nm k).toND) nk2 (by omega)
              clear h
              go_wp2_with fail
              refine (head_any _ _ _ _ _ _).mono ?_
              rintro e w1 ⟨rfl, O1⟩
              go_wp2_with fail
              refine (declareAll_any (w.heap.size + 1 + 1) (fm f).nv hc dec _ _ _ ((fm f).nm k).rf w1 hnr (BD.onw O1) AD ((hI.onw ob).onw O1) HSEP.out).mono ?_
              rintro e w2 ⟨hc2, rfl, b2, K2, BD2, AD2⟩
              have ow : Onw w w2 := Below.trans (ob.trans O1) (Below.mono b2 (show w.heap.size ≤ w.heap.size + 1 + 1 by omega))
              have BX2 := (BX.onw O1).kept K2 (show w.heap.size ≠ w.heap.size + 1 + 1 by omega)
              have BF2 := (BF.onw O1).kept K2 (show w.heap.size + 1 ≠ w.heap.size + 1 + 1 by omega)
              cases hx : (decL (fm f).nv ((fm f).nm k).rf dec 0 ((fm f).nm k).nr).1
              · go_wp2_with fail
                go_ret
                exact ⟨ret_int (by rw [FIN.out, HQ.out, st.out, r1.out, hx]; rfl), ow⟩
              · go_wp2_with fail
                go_roundw
                case rel => exact ⟨k + 1, hc2, _, by omega, by go_num, ow, BX2, BF2, BD2, AD2, by rw [HQ.out, st.out, r1.out, hx]; rfl⟩
                case measure => simp [intOf]; omega
            · have a0 := as_let_no (d := ((fm f).nm k).toND) nk2 (by omega)
              have a1 := as_for_no (d := ((fm f).nm k).toND) nk2 (by omega)
              have a2 := as_each_no (d := ((fm f).nm k).toND) nk2 (by omega)
              have a3 := as_try_yes (d := ((fm f).nm k).toND) nk2 (by omega)
              clear h
              go_wp2_with fail
              refine (head_any _ _ _ _ _ _).mono ?_
              rintro e w1 ⟨rfl, O1⟩
              go_wp2_with fail
              refine (declareAll_any (w.heap.size + 1 + 1) (fm f).nv hc dec _ _ _ ((fm f).nm k).rf w1 hnr (BD.onw O1) AD ((hI.onw ob).onw O1) HSEP.out).mono ?_
              rintro e w2 ⟨hc2, rfl, b2, K2, BD2, AD2⟩
              have ow : Onw w w2 := Below.trans (ob.trans O1) (Below.mono b2 (show w.heap.size ≤ w.heap.size + 1 + 1 by omega))
              have BX2 := (BX.onw O1).kept K2 (show w.heap.size ≠ w.heap.size + 1 + 1 by omega)
              have BF2 := (BF.onw O1).kept K2 (show w.heap.size + 1 ≠ w.heap.size + 1 + 1 by omega)
              cases hx : (decL (fm f).nv ((fm f).nm k).rf dec 0 ((fm f).nm k).nr).1
              · go_wp2_with fail
                go_ret
                exact ⟨ret_int (by rw [FIN.out, HQ.out, st.out, r1.out, hx]; rfl), ow⟩
              · go_wp2_with fail
                go_roundw
                case rel => exact ⟨k + 1, hc2, _, by omega, by go_num, ow, BX2, BF2, BD2, AD2, by rw [HQ.out, st.out, r1.out, hx]; rfl⟩
                case measure => simp [intOf]; omega
          · have hdk' : ((fm f).nm k).kind ≠ 2 ∧ ((fm f).nm k).kind ≠ 7 ∧ ((fm f).nm k).kind ≠ 8 ∧ ((fm f).nm k).kind ≠ 12 := by omega
            have r0 : Hid (refs1 (UM.toUD ⟨nf, fm, some ⟨b, off, none⟩, uc⟩) (fm f).toFD (q f) k dec = if ((fm f).nm k).kind = 26 then (q f k, dec) else if ((fm f).nm k).kind = 27 then (withinB (((fm f).nm k).rf 0) (fm f).nu, dec) else if ((fm f).nm k).kind = 36 then (withinB (((fm f).nm k).rf 0) nf, dec) else (true, dec)) := by
              show _ = _
              rw [ro.out, if_neg (by unfold decK; simp [hdk'.1, hdk'.2.1, hdk'.2.2.1, hdk'.2.2.2])]
            clear ro HRO hdk mh mfn mfr
            have a0 := as_let_no (d := ((fm f).nm k).toND) nk2 (by omega)
            have a1 := as_for_no (d := ((fm f).nm k).toND) nk2 (by omega)
            have a2 := as_each_no (d := ((fm f).nm k).toND) nk2 (by omega)
            have a3 := as_try_no (d := ((fm f).nm k).toND) nk2 (by omega)
            clear hdk'
            have bx := BX.cell
            have zx := BX.lt
            have zf := BF.lt
            by_cases h26 : ((fm f).nm k).kind = 26
            · have a4 := as_var_yes (d := ((fm f).nm k).toND) nk2 h26
              have r1 : Hid (refs1 (UM.toUD ⟨nf, fm, some ⟨b, off, none⟩, uc⟩) (fm f).toFD (q f) k dec = (q f k, dec)) := by show _ = _; rw [r0.out, if_pos h26]
              clear h26 r0
              have y1 := cell_onw ob (t2 k hlt).2
              have t1' := cell_onw ob t1
              have zy := cell_lt y1
              have zt := cell_lt t1'
              cases hx : q f k
              · rw [hx] at y1
                go_wp2_with fail
                go_ret
                exact ⟨ret_int (by rw [FIN.out, HQ.out, st.out, r1.out, hx]; rfl), ob.trans (Onw.alloc _ _)⟩
              · rw [hx] at y1
                go_wp2_with fail
                go_roundw
                case rel => exact ⟨k + 1, hc, _, by omega, by go_num, ob.trans (Onw.alloc _ _), BX.onw (Onw.alloc _ _), BF.onw (Onw.alloc _ _), BD.onw (Onw.alloc _ _), AD, by rw [HQ.out, st.out, r1.out, hx]; rfl⟩
                case measure => simp [intOf]; omega
            · have a4 := as_var_no (d := ((fm f).nm k).toND) nk2 h26
              by_cases h27 : ((fm f).nm k).kind = 27
              · have a5 := as_up_yes (d := ((fm f).nm k).toND) nk2 h27
                have r1 : Hid (refs1 (UM.toUD ⟨nf, fm, some ⟨b, off, none⟩, uc⟩) (fm f).toFD (q f) k dec = (withinB (((fm f).nm k).rf 0) (fm f).nu, dec)) := by show _ = _; rw [r0.out, if_neg h26, if_pos h27]
                have hnr := HR.out k hlt (by omega)
                obtain ⟨rb, ro', hra, hcc⟩ := (aN k hlt).1.onw ob (by omega)
                have rr := hcc 0 (by omega)
                simp only [Nat.add_zero] at rr
                have zr := cell_lt rr
                rw [hra, hnr] at g1'
                clear hcc hra hnr r0 h26 h27
                have e5 : wr.cell? ⟨w.heap.size + 1, 5, none⟩ = some (.slice (fm f).ua (fm f).nu (fm f).uc) := by rw [BF.cell]; rfl
                go_wp2_with fail
                have OX := Onw.alloc wr (Obj.cells #[.int .i64 k, .int .i64 ((fm f).nm k).kind, .int .i64 ((fm f).nm k).line, .int .i64 ((fm f).nm k).op, .int .i64 ((fm f).nm k).num, .float .f64 ((fm f).nm k).flt, .string ((fm f).nm k).str, .slice (some ⟨rb, ro', none⟩) 1 ((fm f).nm k).rc, .slice ((fm f).nm k).ka ((fm f).nm k).nk ((fm f).nm k).kc, .slice kk (knN ((fm f).nm k).toND) (knN ((fm f).nm k).toND)] 105)
                have bq := (Blk.new wr 105 #[.int .i64 k, .int .i64 ((fm f).nm k).kind, .int .i64 ((fm f).nm k).line, .int .i64 ((fm f).nm k).op, .int .i64 ((fm f).nm k).num, .float .f64 ((fm f).nm k).flt, .string ((fm f).nm k).str, .slice (some ⟨rb, ro', none⟩) 1 ((fm f).nm k).rc, .slice ((fm f).nm k).ka ((fm f).nm k).nk ((fm f).nm k).kc, .slice kk (knN ((fm f).nm k).toND) (knN ((fm f).nm k).toND)]).cell
                have rr' := cell_onw OX rr
                have e5' := cell_onw OX e5
                have ob' := ob.trans OX
                have BX' := BX.onw OX
                have BF' := BF.onw OX
                have BD' := BD.onw OX
                generalize wr.alloc (Obj.cells #[.int .i64 k, .int .i64 ((fm f).nm k).kind, .int .i64 ((fm f).nm k).line, .int .i64 ((fm f).nm k).op, .int .i64 ((fm f).nm k).num, .float .f64 ((fm f).nm k).flt, .string ((fm f).nm k).str, .slice (some ⟨rb, ro', none⟩) 1 ((fm f).nm k).rc, .slice ((fm f).nm k).ka ((fm f).nm k).nk ((fm f).nm k).kc, .slice kk (knN ((fm f).nm k).toND) (knN ((fm f).nm k).toND)] 105) = wy at *
                have bq7 : wy.cell? ⟨wr.heap.size, 7, none⟩ = some (.slice (some ⟨rb, ro', none⟩) 1 ((fm f).nm k).rc) := by rw [bq]; rfl
                clear bq bx
                cases hx : withinB (((fm f).nm k).rf 0) (fm f).nu
                all_goals
                  go_region_held3 (fun w' => w'.cell? ⟨wr.heap.size, 7, none⟩ = some (.slice (some ⟨rb, ro', none⟩) 1 ((fm f).nm k).rc) ∧ w'.cell? ⟨rb, ro', none⟩ = some (.int .i64 (((fm f).nm k).rf 0)) ∧ w'.cell? ⟨w.heap.size + 1, 5, none⟩ = some (.slice (fm f).ua (fm f).nu (fm f).uc)) (go_keep)
                    (first | (go_at_call 43; refine (within_any _ _ _).mono ?_; rintro e w1 ⟨rfl, rfl⟩; rw [hx]))
                · go_wp2_with fail
                  go_ret
                  exact ⟨ret_int (by rw [FIN.out, HQ.out, st.out, r1.out, hx]; rfl), Below.drew ob'⟩
                · go_wp2_with fail
                  go_roundw
                  case rel => exact ⟨k + 1, hc, _, by omega, by go_num, Below.drew ob', BX'.onw (Below.drew (Onw.refl _)), BF'.onw (Below.drew (Onw.refl _)), BD'.onw (Below.drew (Onw.refl _)), AD, by rw [HQ.out, st.out, r1.out, hx]; rfl⟩
                  case measure => simp [intOf]; omega
              · have a5 := as_up_no (d := ((fm f).nm k).toND) nk2 h27
                by_cases h36 : ((fm f).nm k).kind = 36
                · have a6 := as_fn_yes (d := ((fm f).nm k).toND) nk2 h36
                  have r1 : Hid (refs1 (UM.toUD ⟨nf, fm, some ⟨b, off, none⟩, uc⟩) (fm f).toFD (q f) k dec = (withinB (((fm f).nm k).rf 0) nf, dec)) := by show _ = _; rw [r0.out, if_neg h26, if_neg h27, if_pos h36]
                  have hnr := HR.out k hlt (by omega)
                  obtain ⟨rb, ro', hra, hcc⟩ := (aN k hlt).1.onw ob (by omega)
                  have rr := hcc 0 (by omega)
                  simp only [Nat.add_zero] at rr
                  have zr := cell_lt rr
                  rw [hra, hnr] at g1'
                  clear hcc hra hnr r0 h26 h27 h36
                  have e5 : wr.cell? ⟨w.heap.size, 0, none⟩ = some (.slice (some ⟨b, off, none⟩) nf uc) := by rw [BX.cell]; rfl
                  go_wp2_with fail
                  have OX := Onw.alloc wr (Obj.cells #[.int .i64 k, .int .i64 ((fm f).nm k).kind, .int .i64 ((fm f).nm k).line, .int .i64 ((fm f).nm k).op, .int .i64 ((fm f).nm k).num, .float .f64 ((fm f).nm k).flt, .string ((fm f).nm k).str, .slice (some ⟨rb, ro', none⟩) 1 ((fm f).nm k).rc, .slice ((fm f).nm k).ka ((fm f).nm k).nk ((fm f).nm k).kc, .slice kk (knN ((fm f).nm k).toND) (knN ((fm f).nm k).toND)] 92)
                  have bq := (Blk.new wr 92 #[.int .i64 k, .int .i64 ((fm f).nm k).kind, .int .i64 ((fm f).nm k).line, .int .i64 ((fm f).nm k).op, .int .i64 ((fm f).nm k).num, .float .f64 ((fm f).nm k).flt, .string ((fm f).nm k).str, .slice (some ⟨rb, ro', none⟩) 1 ((fm f).nm k).rc, .slice ((fm f).nm k).ka ((fm f).nm k).nk ((fm f).nm k).kc, .slice kk (knN ((fm f).nm k).toND) (knN ((fm f).nm k).toND)]).cell
                  have rr' := cell_onw OX rr
                  have e5' := cell_onw OX e5
                  have ob' := ob.trans OX
                  have BX' := BX.onw OX
                  have BF' := BF.onw OX
                  have BD' := BD.onw OX
                  generalize wr.alloc (Obj.cells #[.int .i64 k, .int .i64 ((fm f).nm k).kind, .int .i64 ((fm f).nm k).line, .int .i64 ((fm f).nm k).op, .int .i64 ((fm f).nm k).num, .float .f64 ((fm f).nm k).flt, .string ((fm f).nm k).str, .slice (some ⟨rb, ro', none⟩) 1 ((fm f).nm k).rc, .slice ((fm f).nm k).ka ((fm f).nm k).nk ((fm f).nm k).kc, .slice kk (knN ((fm f).nm k).toND) (knN ((fm f).nm k).toND)] 92) = wy at *
                  have bq7 : wy.cell? ⟨wr.heap.size, 7, none⟩ = some (.slice (some ⟨rb, ro', none⟩) 1 ((fm f).nm k).rc) := by rw [bq]; rfl
                  clear bq bx
                  cases hx : withinB (((fm f).nm k).rf 0) nf
                  all_goals
                    go_region_held3 (fun w' => w'.cell? ⟨wr.heap.size, 7, none⟩ = some (.slice (some ⟨rb, ro', none⟩) 1 ((fm f).nm k).rc) ∧ w'.cell? ⟨rb, ro', none⟩ = some (.int .i64 (((fm f).nm k).rf 0)) ∧ w'.cell? ⟨w.heap.size, 0, none⟩ = some (.slice (some ⟨b, off, none⟩) nf uc)) (go_keep)
                      (first | (go_at_call 43; refine (within_any _ _ _).mono ?_; rintro e w1 ⟨rfl, rfl⟩; rw [hx]))
                  · go_wp2_with fail
                    go_ret
                    exact ⟨ret_int (by rw [FIN.out, HQ.out, st.out, r1.out, hx]; rfl), Below.drew ob'⟩
                  · go_wp2_with fail
                    go_roundw
                    case rel => exact ⟨k + 1, hc, _, by omega, by go_num, Below.drew ob', BX'.onw (Below.drew (Onw.refl _)), BF'.onw (Below.drew (Onw.refl _)), BD'.onw (Below.drew (Onw.refl _)), AD, by rw [HQ.out, st.out, r1.out, hx]; rfl⟩
                    case measure => simp [intOf]; omega
                · have a6 := as_fn_no (d := ((fm f).nm k).toND) nk2 h36
                  have r1 : Hid (refs1 (UM.toUD ⟨nf, fm, some ⟨b, off, none⟩, uc⟩) (fm f).toFD (q f) k dec = (true, dec)) := by show _ = _; rw [r0.out, if_neg h26, if_neg h27, if_neg h36]
                  clear h26 h27 h36 r0
                  go_wp2_with fail
                  go_roundw
                  case rel => exact ⟨k + 1, hc, _, by omega, by go_num, ob, BX, BF, BD, AD, by rw [HQ.out, st.out, r1.out]; rfl⟩
                  case measure => simp [intOf]; omega
        · have st : Hid (find6F (UM.toUD ⟨nf, fm, some ⟨b, off, none⟩, uc⟩) (fm f).toFD (q f) dec k ((fm f).nn - k) = none) := by
            show _ = _
            rw [show (fm f).nn - k = 0 from by omega]; rfl
          go_wp2_with fail
          go_ret
          exact ⟨ret_int (by rw [FIN.out, HQ.out, st.out]; rfl), ob⟩
end Go.Proofs.YtnokgdgikdgaeaaGreat
