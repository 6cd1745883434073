import Derived.Test.YtjebijnndfkinaaGreatP16
namespace Go.Proofs.YtjebijnndfkinaaGreat
open Go.RowKit
attribute [local go_sem] run_store_float

abbrev MK := Nat → Option (Nat × Nat)
def mFn : Option (Nat × Nat) → Int
  | some x => x.1
  | none => 0
def mNd : Option (Nat × Nat) → Int
  | some x => x.2
  | none => 0
def MArr (c : Array Value) (n : Nat) (s : MK) : Prop := c.size = n * 3 ∧ ∀ k, k < n → c[k * 3]? = some (.bool (s k).isSome) ∧ c[k * 3 + 1]? = some (.int .i64 (mFn (s k))) ∧ c[k * 3 + 2]? = some (.int .i64 (mNd (s k)))
theorem MArr.set {c : Array Value} {n : Nat} {s : MK} (h : MArr c n s) (i f m : Nat) : MArr (((c.setIfInBounds (i * 3) (.bool true)).setIfInBounds (i * 3 + 1) (.int .i64 f)).setIfInBounds (i * 3 + 2) (.int .i64 m)) n (fun k => if k = i then some (f, m) else s k) := by
  refine ⟨by simpa using h.1, fun k hk => ?_⟩
  by_cases e : k = i
  · subst e
    have h1 : k * 3 < c.size := by rw [h.1]; omega
    have h2 : k * 3 + 1 < c.size := by rw [h.1]; omega
    have h3 : k * 3 + 2 < c.size := by rw [h.1]; omega
    refine ⟨?_, ?_, ?_⟩
    · rw [Array.getElem?_setIfInBounds, if_neg (by omega), Array.getElem?_setIfInBounds, if_neg (by omega)]; simp [h1]
    · rw [Array.getElem?_setIfInBounds, if_neg (by omega)]; simp [h2, mFn]
    · simp [h3, mNd]
  · obtain ⟨h1, h2, h3⟩ := h.2 k hk
    simp only [if_neg e]
    refine ⟨?_, ?_, ?_⟩
    · rw [Array.getElem?_setIfInBounds, if_neg (by omega), Array.getElem?_setIfInBounds, if_neg (by omega), Array.getElem?_setIfInBounds, if_neg (by omega)]; exact h1
    · rw [Array.getElem?_setIfInBounds, if_neg (by omega), Array.getElem?_setIfInBounds, if_neg (by omega), Array.getElem?_setIfInBounds, if_neg (by omega)]; exact h2
    · rw [Array.getElem?_setIfInBounds, if_neg (by omega), Array.getElem?_setIfInBounds, if_neg (by omega), Array.getElem?_setIfInBounds, if_neg (by omega)]; exact h3

/-- The makers, after n nodes of fn f. -/
def mk1 (u : UD) (f : Nat) (s : MK) : Nat → MK
  | 0 => s
  | n + 1 => if ((u.fn f).nd n).kind = 36 ∧ withinB (((u.fn f).nd n).rf 0) u.nf = true ∧ (mk1 u f s n (((u.fn f).nd n).rf 0).toNat).isSome = false then (fun k => if k = (((u.fn f).nd n).rf 0).toNat then some (f, n) else mk1 u f s n k) else mk1 u f s n
def mkF (u : UD) : Nat → MK
  | 0 => fun _ => none
  | f + 1 => mk1 u f (mkF u f) (u.fn f).nn
theorem mk1_step (u : UD) (f : Nat) (s : MK) (n : Nat) : mk1 u f s (n + 1) = if ((u.fn f).nd n).kind = 36 ∧ withinB (((u.fn f).nd n).rf 0) u.nf = true ∧ (mk1 u f s n (((u.fn f).nd n).rf 0).toNat).isSome = false then (fun k => if k = (((u.fn f).nd n).rf 0).toNat then some (f, n) else mk1 u f s n k) else mk1 u f s n := rfl

def MakersAt (w : World) (b n : Nat) (s : MK) : Prop := ∀ i, i < n → w.cell? ⟨b, i * 3, none⟩ = some (.bool (s i).isSome) ∧ w.cell? ⟨b, i * 3 + 1, none⟩ = some (.int .i64 (mFn (s i))) ∧ w.cell? ⟨b, i * 3 + 2, none⟩ = some (.int .i64 (mNd (s i)))
theorem MakersAt.onw {w w' : World} (h : Onw w w') {b n s} (m : MakersAt w b n s) : MakersAt w' b n s := fun i hi => ⟨cell_onw h (m i hi).1, cell_onw h (m i hi).2.1, cell_onw h (m i hi).2.2⟩

theorem info_maker : (Tryz.prog.info? 96).map (fun i => (i.zero, i.size, i.bytes)) = some (some (.agg #[.bool false, .int .i64 0, .int .i64 0]), 3, 24) := by kernel_rfl
theorem run_make_makers (n : Nat) (hn : n ≤ 1048576) (w : World) :
    (Instr.makeSlice 42 (.int .i64 n) (.int .i64 n)).run Tryz.prog w = .ok (.slice (some ⟨w.heap.size, 0, none⟩) n n) (w.alloc (.cells (madeCells #[.bool false, .int .i64 0, .int .i64 0] (n * 3)) 96)) := by
  obtain ⟨i0, hi, hz0, hz1, hz2⟩ := info_parts info_maker
  have := run_make (P := Tryz.prog) w 42 96 i0 _ Tryz.underlying42 hi hz0 .i64 .i64 n n (by omega) (by omega) (by rw [hz2]; omega) (by omega)
  simpa [hz1, Value.cells] using this
theorem made_maker (n : Nat) : MArr (madeCells #[.bool false, .int .i64 0, .int .i64 0] (n * 3)) n (fun _ => none) := by
  refine ⟨size_madeCells _ _, fun k hk => ⟨?_, ?_, ?_⟩⟩
  · have h1 : k * 3 < n * 3 := by omega
    have h2 : k * 3 % 3 = 0 := by omega
    simp [madeCells, h1, h2]
  · have h1 : k * 3 + 1 < n * 3 := by omega
    have h2 : (k * 3 + 1) % 3 = 1 := by omega
    simp [madeCells, h1, h2, mFn]
  · have h1 : k * 3 + 2 < n * 3 := by omega
    have h2 : (k * 3 + 2) % 3 = 2 := by omega
    simp [madeCells, h1, h2, mNd]

set_option maxRecDepth 100000 in
set_option maxHeartbeats 4000000 in
theorem makersOf_any (u : UM) (ab : Nat) (fb : Nat → Nat) (w : World) (hn : u.nf ≤ 1048576) (hs : ∀ f, f < u.nf → (u.fm f).Small) (hnk : ∀ f, f < u.nf → ∀ n, n < (u.fm f).nn → ((u.fm f).nm n).nk ≤ 200) (hr : ∀ f, f < u.nf → ∀ n, n < (u.fm f).nn → ((u.fm f).nm n).kind = 36 → ((u.fm f).nm n).nr = 1) (ha : u.At w) (hF : FormsAll w ab u.nf fb u.fm) :
    Calls Tryz.prog 23 #[.slice u.fa u.nf u.fc, .slice (some ⟨ab, 0, none⟩) u.nf u.nf] w fun e w' => ∃ mb, e = .returned (.slice (some ⟨mb, 0, none⟩) u.nf u.nf) ∧ Onw w w' ∧ MakersAt w' mb u.nf (mkF u.toUD u.nf) ∧ w.heap.size ≤ mb := by
  obtain ⟨nf, fm, ua, uc⟩ := u
  simp only at *
  have HS : Hid _ := hs
  have HA : Hid _ := ha
  have HNK : Hid _ := hnk
  have HR : Hid _ := hr
  have HF : Hid _ := hF
  clear hs ha hnk hr hF
  have hmk := run_make_makers nf hn
  go_enter Tryz.func23, Tryz.ntmps23
  go_wp2_with fail
  clear hmk
  go_loopw [17] (fun i wr => ∃ (k : Nat) (cur : Array Value), k ≤ nf ∧ i = .int .i64 k ∧ Onw w wr ∧ Blk wr w.heap.size 96 cur ∧ MArr cur nf (mkF (UM.toUD ⟨nf, fm, ua, uc⟩) k)) (fun i _ => nf - (intOf i).toNat)
  case atStart => exact ⟨0, _, Nat.zero_le _, rfl, Onw.alloc _ _, Blk.new _ _ _, made_maker _⟩
  case round =>
    obtain ⟨k, cur, hk, rfl, ob, B, A⟩ := hrel
    by_cases hlt : k < nf
    · have g0 := cell_onw ob (HF.out k hlt).1
      have h2 := (HF.out k hlt).2
      have zB := B.lt
      have snn := (HS.out k hlt).2.2.1
      go_wp2_with fail
      clear g0
      go_loopw [25] (fun j wr => ∃ (i : Nat) (cur : Array Value), i ≤ (fm k).nn ∧ j = .int .i64 i ∧ Onw w wr ∧ Blk wr w.heap.size 96 cur ∧ MArr cur nf (mk1 (UM.toUD ⟨nf, fm, ua, uc⟩) k (mkF (UM.toUD ⟨nf, fm, ua, uc⟩) k) i)) (fun j _ => (fm k).nn - (intOf j).toNat)
      case atStart => exact ⟨0, cur, Nat.zero_le _, rfl, ob, B, A⟩
      case round =>
        clear B A ob zB
        obtain ⟨i, cur, hi, rfl, ob, B, A⟩ := hrel
        by_cases hit : i < (fm k).nn
        · obtain ⟨v, g1, kk, hv, hI, _⟩ := h2 i hit
          subst hv
          have g1' := cell_onw ob g1
          have zg := cell_lt g1'
          clear g1
          have nk2 := HNK.out k hlt i hit
          have st : Hid _ := mk1_step (UM.toUD ⟨nf, fm, ua, uc⟩) k (mkF (UM.toUD ⟨nf, fm, ua, uc⟩) k) i
          by_cases hkq : ((fm k).nm i).kind = 36
          · have asl := as_fn_yes (d := ((fm k).nm i).toND) nk2 hkq
            have hnr := HR.out k hlt i hit hkq
            obtain ⟨rb, ro, hra, hc⟩ := (((HA.out.2 k hlt).2.2.2 i hit).1.onw ob) (by omega)
            have r0 := hc 0 (by omega)
            simp only [Nat.add_zero] at r0
            have zr := cell_lt r0
            have HKQ : Hid _ := hkq
            rw [hra, hnr] at g1'
            have HRF : Hid ((((UM.toUD ⟨nf, fm, ua, uc⟩).fn k).nd i).rf 0 = ((fm k).nm i).rf 0) := rfl
            clear hc hra hnr hkq
            by_cases hin : 0 ≤ ((fm k).nm i).rf 0 ∧ ((fm k).nm i).rf 0 < nf
            · obtain ⟨q, hq⟩ := Int.eq_ofNat_of_zero_le hin.1
              have hqn : q < nf := by omega
              have hw : Hid (withinB (q : Int) nf = true) := by show _ = _; simp [withinB]; omega
              have HQ : Hid _ := hq
              rw [hq] at r0
              clear hin hq
              obtain ⟨m0, m1, m2⟩ := A.2 q hqn
              rw [← B.cell] at m0 m1 m2
              have fs := B.free
              have zB := B.lt
              cases hfd : (mk1 (UM.toUD ⟨nf, fm, ua, uc⟩) k (mkF (UM.toUD ⟨nf, fm, ua, uc⟩) k) i q).isSome
              · rw [hfd] at m0
                have R : Hid (MArr (((cur.setIfInBounds (q * 3) (.bool true)).setIfInBounds (q * 3 + 1) (.int .i64 k)).setIfInBounds (q * 3 + 2) (.int .i64 i)) nf (mk1 (UM.toUD ⟨nf, fm, ua, uc⟩) k (mkF (UM.toUD ⟨nf, fm, ua, uc⟩) k) (i + 1))) := by
                  show MArr _ _ _
                  have e1 : ((((UM.toUD ⟨nf, fm, ua, uc⟩).fn k).nd i).rf 0) = (q : Int) := HRF.out.trans HQ.out
                  rw [st.out, if_pos ⟨HKQ.out, by rw [e1]; exact hw.out, by rw [e1]; exact hfd⟩, e1]
                  exact A.set q k i
                go_wp2_with fail
                refine (within_any _ _ _).mono ?_
                rintro e w1 ⟨rfl, rfl⟩
                rw [hw.out]
                go_wp2_with fail
                go_roundw
                case rel => exact ⟨i + 1, _, by omega, by go_num, (below_set (below_set (below_set ob (Nat.le_refl _) _) (Nat.le_refl _) _) (Nat.le_refl _) _).trans (Below.mono (Onw.alloc _ _) (by simp only [World.size_setCell]; exact ob.size)), (((B.set (q * 3) _).set (q * 3 + 1) _).set (q * 3 + 2) _).onw (Onw.alloc _ _), R.out⟩
                case measure => simp [intOf]; omega
              · rw [hfd] at m0
                go_wp2_with fail
                refine (within_any _ _ _).mono ?_
                rintro e w1 ⟨rfl, rfl⟩
                rw [hw.out]
                go_wp2_with fail
                go_roundw
                case rel =>
                  refine ⟨i + 1, cur, by omega, by go_num, ob.trans (Onw.alloc _ _), B.onw (Onw.alloc _ _), ?_⟩
                  have e1 : ((((UM.toUD ⟨nf, fm, ua, uc⟩).fn k).nd i).rf 0) = (q : Int) := HRF.out.trans HQ.out
                  rw [st.out, if_neg (fun h => by have h3 := h.2.2; rw [e1] at h3; have h4 := h3.symm.trans hfd; cases h4)]; exact A
                case measure => simp [intOf]; omega
            · have hw : Hid (withinB (((fm k).nm i).rf 0) nf = false) := by show _ = _; rw [← Bool.not_eq_true]; simp [withinB]; omega
              clear hin
              go_wp2_with fail
              refine (within_any _ _ _).mono ?_
              rintro e w1 ⟨rfl, rfl⟩
              rw [hw.out]
              go_wp2_with fail
              go_roundw
              case rel =>
                refine ⟨i + 1, cur, by omega, by go_num, ob.trans (Onw.alloc _ _), B.onw (Onw.alloc _ _), ?_⟩
                rw [st.out, if_neg (fun h => by have h3 := h.2.1; have h4 := hw.out.symm.trans h3; cases h4)]; exact A
              case measure => simp [intOf]; omega
          · have asl := as_fn_no (d := ((fm k).nm i).toND) nk2 hkq
            have HKQ : Hid _ := hkq
            go_wp2_with fail
            go_roundw
            case rel => exact ⟨i + 1, cur, by omega, by go_num, ob.trans (Onw.alloc _ _), B.onw (Onw.alloc _ _), by rw [st.out, if_neg (fun h => HKQ.out h.1)]; exact A⟩
            case measure => simp [intOf]; omega
        · have : i = (fm k).nn := by omega
          subst this
          go_wp2_with fail
          go_roundw
          case rel => exact ⟨k + 1, cur, by omega, by go_num, ob, B, A⟩
          case measure => simp [intOf]; omega
    · have : k = nf := by omega
      subst this
      go_wp2_with fail
      go_ret
      exact ⟨_, rfl, ob, fun i hi => ⟨by rw [B.cell]; exact (A.2 i hi).1, by rw [B.cell]; exact (A.2 i hi).2.1, by rw [B.cell]; exact (A.2 i hi).2.2⟩, Nat.le_refl _⟩
end Go.Proofs.YtjebijnndfkinaaGreat

namespace Go.Proofs.YtjebijnndfkinaaGreat
open Go.RowKit
attribute [local go_sem] run_store_float

def jumpF (d : FD) (p : Nat → Bool) : Int := optI (findN (fun n => jumpK (d.nd n) && !p n) 0 d.nn)

set_option maxRecDepth 100000 in
set_option maxHeartbeats 2000000 in
theorem jumpFault_any (u : UM) (ab sa : Nat) (fb sb : Nat → Nat) (p q : Nat → Nat → Bool) (ma : Option Addr) (mn mc : Nat) (f : Nat) (w : World) (hf : f < u.nf) (hn : u.nf ≤ 1048576) (hs : (u.fm f).Small) (hnk : ∀ n, n < (u.fm f).nn → ((u.fm f).nm n).nk ≤ 200) (hF : FormsAll w ab u.nf fb u.fm) (hS : SightsAll w sa u.nf sb u.fm p q) :
    Calls Tryz.prog 25 #[.agg #[.slice u.fa u.nf u.fc, .slice (some ⟨ab, 0, none⟩) u.nf u.nf, .slice (some ⟨sa, 0, none⟩) u.nf u.nf, .slice ma mn mc], .int .i64 f] w
      fun e w' => e = .returned (.int .i64 (jumpF (u.fm f).toFD (p f))) ∧ Onw w w' := by
  obtain ⟨nf, fm, ua, uc⟩ := u
  simp only at *
  obtain ⟨h1, h2⟩ := hF f hf
  obtain ⟨t1, t2⟩ := hS f hf
  have s3 := hs.2.2.1
  have zb := cell_lt h1
  have zs := cell_lt t1
  clear hF hS
  have BX : Blk (w.alloc (Obj.cells #[.slice ua nf uc, .slice (some ⟨ab, 0, none⟩) nf nf, .slice (some ⟨sa, 0, none⟩) nf nf, .slice ma mn mc] 44)) w.heap.size 44 #[.slice ua nf uc, .slice (some ⟨ab, 0, none⟩) nf nf, .slice (some ⟨sa, 0, none⟩) nf nf, .slice ma mn mc] := Blk.new _ _ _
  go_enter Tryz.func25, Tryz.ntmps25
  go_wp2_with fail
  go_loopw [15] (fun i wr => ∃ k : Nat, k ≤ (fm f).nn ∧ i = .int .i64 k ∧ Onw w wr ∧ Blk wr w.heap.size 44 #[.slice ua nf uc, .slice (some ⟨ab, 0, none⟩) nf nf, .slice (some ⟨sa, 0, none⟩) nf nf, .slice ma mn mc] ∧ jumpF (fm f).toFD (p f) = optI (findN (fun n => jumpK ((fm f).nm n).toND && !p f n) k ((fm f).nn - k))) (fun i _ => (fm f).nn - (intOf i).toNat)
  case atStart => exact ⟨0, Nat.zero_le _, rfl, Onw.alloc _ _, BX, rfl⟩
  case round =>
    clear BX
    obtain ⟨k, hk, rfl, ob, BX, hq⟩ := hrel
    have HQ : Hid _ := hq
    clear hq
    by_cases hlt : k < (fm f).nn
    · obtain ⟨v, g1, kk, hv, hI, _⟩ := h2 k hlt
      subst hv
      have g1' := cell_onw ob g1
      have y0 := cell_onw ob (t2 k hlt).1
      have t1' := cell_onw ob t1
      have bx := BX.cell
      have zx := BX.lt
      have z1 := cell_lt g1'
      have z2 := cell_lt y0
      have z3 := cell_lt t1'
      have nk2 := hnk k hlt
      have st : Hid (findN (fun n => jumpK ((fm f).nm n).toND && !p f n) k ((fm f).nn - k) = if (jumpK ((fm f).nm k).toND && !p f k) = true then some k else findN (fun n => jumpK ((fm f).nm n).toND && !p f n) (k + 1) ((fm f).nn - (k + 1))) := by
        show _ = _
        rw [show (fm f).nn - k = ((fm f).nn - (k + 1)) + 1 from by omega]; rfl
      clear g1 hI
      by_cases hkq : ((fm f).nm k).kind = 9 ∨ ((fm f).nm k).kind = 10
      · have asl := as_jump_yes (d := ((fm f).nm k).toND) nk2 hkq
        have hj : Hid (jumpK ((fm f).nm k).toND = true) := by show _ = _; simp only [jumpK]; rcases hkq with h | h <;> simp [h]
        clear hkq
        cases hp : p f k
        · rw [hp] at y0
          go_wp2_with fail
          go_quiet (fail)
          go_wp2_with fail
          go_ret
          exact ⟨ret_int (by rw [HQ.out, st.out, hj.out, hp]; rfl), below_drewN (ob.trans (Onw.alloc _ _)) _⟩
        · rw [hp] at y0
          go_wp2_with fail
          go_quiet (fail)
          go_wp2_with fail
          go_roundw
          case rel => exact ⟨k + 1, by omega, by go_num, below_drewN (ob.trans (Onw.alloc _ _)) _, BX.onw (below_drewN (Onw.alloc _ _) _), by rw [HQ.out, st.out, hj.out, hp]; rfl⟩
          case measure => simp [intOf]; omega
      · have asl := as_jump_no (d := ((fm f).nm k).toND) nk2 (by omega)
        have hj : Hid (jumpK ((fm f).nm k).toND = false) := by show _ = _; rw [← Bool.not_eq_true]; simp only [jumpK]; simpa using hkq
        clear hkq
        go_wp2_with fail
        go_quiet (fail)
        go_wp2_with fail
        go_roundw
        case rel => exact ⟨k + 1, by omega, by go_num, below_drewN (ob.trans (Onw.alloc _ _)) _, BX.onw (below_drewN (Onw.alloc _ _) _), by rw [HQ.out, st.out, hj.out]; rfl⟩
        case measure => simp [intOf]; omega
    · have st : Hid (findN (fun n => jumpK ((fm f).nm n).toND && !p f n) k ((fm f).nn - k) = none) := by
        show _ = _
        rw [show (fm f).nn - k = 0 from by omega]; rfl
      go_wp2_with fail
      go_ret
      exact ⟨ret_int (by rw [HQ.out, st.out]; rfl), ob⟩
end Go.Proofs.YtjebijnndfkinaaGreat

namespace Go.Proofs.YtjebijnndfkinaaGreat
open Go.RowKit
attribute [local go_sem] run_store_float

def unmF (s : MK) (f : Nat) : Int := if f = 0 then -1 else if (s f).isSome then -1 else 0

set_option maxRecDepth 100000 in
set_option maxHeartbeats 2000000 in
theorem unmadeFault_any (fa ab sa : Option Addr) (nf fc an ac sn sc mb : Nat) (s : MK) (f : Nat) (w : World) (hf : f < nf) (hM : MakersAt w mb nf s) :
    Calls Tryz.prog 27 #[.agg #[.slice fa nf fc, .slice ab an ac, .slice sa sn sc, .slice (some ⟨mb, 0, none⟩) nf nf], .int .i64 f] w
      fun e w' => e = .returned (.int .i64 (unmF s f)) ∧ Onw w w' := by
  have m0 := (hM f hf).1
  have zm := cell_lt m0
  have BX : Blk (w.alloc (Obj.cells #[.slice fa nf fc, .slice ab an ac, .slice sa sn sc, .slice (some ⟨mb, 0, none⟩) nf nf] 44)) w.heap.size 44 #[.slice fa nf fc, .slice ab an ac, .slice sa sn sc, .slice (some ⟨mb, 0, none⟩) nf nf] := Blk.new _ _ _
  by_cases h0 : f = 0
  · subst h0
    have u0 : Hid (unmF s 0 = -1) := rfl
    go_enter Tryz.func27, Tryz.ntmps27
    go_wp2_with fail
    go_ret
    exact ⟨ret_int u0.out.symm, Onw.alloc _ _⟩
  · have p0 : (0 : Int) < (f : Int) := by omega
    cases hx : (s f).isSome
    · have u0 : Hid (unmF s f = 0) := by show _ = _; simp [unmF, h0, hx]
      rw [hx] at m0
      go_enter Tryz.func27, Tryz.ntmps27
      go_wp2_with fail
      go_ret
      exact ⟨ret_int u0.out.symm, Onw.alloc _ _⟩
    · have u0 : Hid (unmF s f = -1) := by show _ = _; simp [unmF, h0, hx]
      rw [hx] at m0
      go_enter Tryz.func27, Tryz.ntmps27
      go_wp2_with fail
      go_ret
      exact ⟨ret_int u0.out.symm, Onw.alloc _ _⟩

/-- Code 8 of a node, as the program asks it. -/
def madeOk (d : FD) (f : Nat) (s : MK) (q : Nat → Bool) (n : Nat) : Bool :=
  if (d.nd n).kind = 37 then d.rest else if (d.nd n).kind = 36 then (decide ((f : Int) < (d.nd n).rf 0) && decide (s ((d.nd n).rf 0).toNat = some (f, n)) && q n) else true
def madeF (d : FD) (f : Nat) (s : MK) (q : Nat → Bool) : Int := optI (findN (fun n => !madeOk d f s q n) 0 d.nn)

set_option maxRecDepth 100000 in
set_option maxHeartbeats 4000000 in
theorem madeFault_any (u : UM) (ab sa mb : Nat) (fb sb : Nat → Nat) (p q : Nat → Nat → Bool) (s : MK) (f : Nat) (w : World) (hf : f < u.nf) (hn : u.nf ≤ 1048576) (hs : (u.fm f).Small) (hnk : ∀ n, n < (u.fm f).nn → ((u.fm f).nm n).nk ≤ 200) (hr : ∀ n, n < (u.fm f).nn → ((u.fm f).nm n).kind = 36 → ((u.fm f).nm n).nr = 1 ∧ 0 ≤ ((u.fm f).nm n).rf 0 ∧ ((u.fm f).nm n).rf 0 < u.nf) (ha : u.At w) (hF : FormsAll w ab u.nf fb u.fm) (hS : SightsAll w sa u.nf sb u.fm p q) (hM : MakersAt w mb u.nf s) :
    Calls Tryz.prog 26 #[.agg #[.slice u.fa u.nf u.fc, .slice (some ⟨ab, 0, none⟩) u.nf u.nf, .slice (some ⟨sa, 0, none⟩) u.nf u.nf, .slice (some ⟨mb, 0, none⟩) u.nf u.nf], .int .i64 f] w
      fun e w' => e = .returned (.int .i64 (madeF (u.fm f).toFD f s (q f))) ∧ Onw w w' := by
  obtain ⟨nf, fm, ua, uc⟩ := u
  simp only at *
  obtain ⟨h1, h2⟩ := hF f hf
  obtain ⟨t1, t2⟩ := hS f hf
  obtain ⟨b, off, hua, hc⟩ := ha.1 (by show 0 < nf; omega)
  simp only at hua
  subst hua
  have c3 := (hc f hf).c3
  have aN := (ha.2 f hf).2.2.2
  simp only at c3 aN
  have s3 := hs.2.2.1
  have zb := cell_lt h1
  have zs := cell_lt t1
  have zc := cell_lt c3
  clear hF hS hc ha
  have HR : Hid _ := hr
  clear hr
  have BX : Blk (w.alloc (Obj.cells #[.slice (some ⟨b, off, none⟩) nf uc, .slice (some ⟨ab, 0, none⟩) nf nf, .slice (some ⟨sa, 0, none⟩) nf nf, .slice (some ⟨mb, 0, none⟩) nf nf] 44)) w.heap.size 44 #[.slice (some ⟨b, off, none⟩) nf uc, .slice (some ⟨ab, 0, none⟩) nf nf, .slice (some ⟨sa, 0, none⟩) nf nf, .slice (some ⟨mb, 0, none⟩) nf nf] := Blk.new _ _ _
  go_enter Tryz.func26, Tryz.ntmps26
  go_wp2_with fail
  go_loopw [17] (fun i wr => ∃ k : Nat, k ≤ (fm f).nn ∧ i = .int .i64 k ∧ Onw w wr ∧ Blk wr w.heap.size 44 #[.slice (some ⟨b, off, none⟩) nf uc, .slice (some ⟨ab, 0, none⟩) nf nf, .slice (some ⟨sa, 0, none⟩) nf nf, .slice (some ⟨mb, 0, none⟩) nf nf] ∧ madeF (fm f).toFD f s (q f) = optI (findN (fun n => !madeOk (fm f).toFD f s (q f) n) k ((fm f).nn - k))) (fun i _ => (fm f).nn - (intOf i).toNat)
  case atStart => exact ⟨0, Nat.zero_le _, rfl, Onw.alloc _ _, BX, rfl⟩
  case round =>
    clear BX
    obtain ⟨k, hk, rfl, ob, BX, hq⟩ := hrel
    have HQ : Hid _ := hq
    clear hq
    by_cases hlt : k < (fm f).nn
    · obtain ⟨v, g1, kk, hv, hI, _⟩ := h2 k hlt
      subst hv
      have g1' := cell_onw ob g1
      have y1 := cell_onw ob (t2 k hlt).2
      have t1' := cell_onw ob t1
      have c3' := cell_onw ob c3
      have bx := BX.cell
      have zx := BX.lt
      have z1 := cell_lt g1'
      have z2 := cell_lt y1
      have z3 := cell_lt t1'
      have z4 := cell_lt c3'
      have nk2 := hnk k hlt
      have st : Hid (findN (fun n => !madeOk (fm f).toFD f s (q f) n) k ((fm f).nn - k) = if (!madeOk (fm f).toFD f s (q f) k) = true then some k else findN (fun n => !madeOk (fm f).toFD f s (q f) n) (k + 1) ((fm f).nn - (k + 1))) := by
        show _ = _
        rw [show (fm f).nn - k = ((fm f).nn - (k + 1)) + 1 from by omega]; rfl
      have mo : Hid (madeOk (fm f).toFD f s (q f) k = if ((fm f).nm k).kind = 37 then (fm f).rest else if ((fm f).nm k).kind = 36 then (decide ((f : Int) < ((fm f).nm k).rf 0) && decide (s (((fm f).nm k).rf 0).toNat = some (f, k)) && q f k) else true) := rfl
      clear g1 hI
      by_cases h37 : ((fm f).nm k).kind = 37
      · have a1 := as_rest_yes (d := ((fm f).nm k).toND) nk2 h37
        have mo2 : Hid (madeOk (fm f).toFD f s (q f) k = (fm f).rest) := by show _ = _; rw [mo.out, if_pos h37]
        clear h37
        cases hp : (fm f).rest
        · rw [hp] at c3'
          go_wp2_with fail
          go_ret
          exact ⟨ret_int (by rw [HQ.out, st.out, mo2.out, hp]; rfl), ob.trans (Onw.alloc _ _)⟩
        · rw [hp] at c3'
          go_wp2_with fail
          go_roundw
          case rel => exact ⟨k + 1, by omega, by go_num, ob.trans (Onw.alloc _ _), BX.onw (Onw.alloc _ _), by rw [HQ.out, st.out, mo2.out, hp]; rfl⟩
          case measure => simp [intOf]; omega
      · have a1 := as_rest_no (d := ((fm f).nm k).toND) nk2 h37
        by_cases h36 : ((fm f).nm k).kind = 36
        · have a2 := as_fn_yes (d := ((fm f).nm k).toND) nk2 h36
          have mo2 : Hid (madeOk (fm f).toFD f s (q f) k = (decide ((f : Int) < ((fm f).nm k).rf 0) && decide (s (((fm f).nm k).rf 0).toNat = some (f, k)) && q f k)) := by show _ = _; rw [mo.out, if_neg h37, if_pos h36]
          obtain ⟨hnr, r1, r2⟩ := HR.out k hlt h36
          obtain ⟨rb, ro, hra, hcc⟩ := (aN k hlt).1.onw ob (by omega)
          have r0 := hcc 0 (by omega)
          simp only [Nat.add_zero] at r0
          have zr := cell_lt r0
          obtain ⟨g, hg⟩ := Int.eq_ofNat_of_zero_le r1
          rw [hra, hnr] at g1'
          have mo3 : Hid (madeOk (fm f).toFD f s (q f) k = (decide ((f : Int) < (g : Int)) && decide (s g = some (f, k)) && q f k)) := by show _ = _; rw [mo2.out, hg]; rfl
          rw [hg] at r0 r2
          have hgn : g < nf := by omega
          obtain ⟨m0, m1, m2⟩ := hM.onw ob g hgn
          have zm := cell_lt m0
          clear hcc hra hnr r1 r2 hg h36 h37 mo mo2
          by_cases hfg : f < g
          · have hfg' : (f : Int) < (g : Int) := by omega
            have D1 : Hid (decide ((f : Int) < (g : Int)) = true) := by show _ = _; simp; omega
            cases hsg : s g with
            | none =>
              have D2 : Hid (decide (s g = some (f, k)) = false) := by show _ = _; rw [hsg]; rfl
              rw [hsg] at m0 m1 m2
              simp only [Option.isSome, mFn, mNd] at m0 m1 m2
              clear hsg
              go_wp2_with fail
              go_ret
              exact ⟨ret_int (by rw [HQ.out, st.out, mo3.out, D1.out, D2.out]; rfl), ob.trans (Onw.alloc _ _)⟩
            | some x =>
              obtain ⟨xf, xn⟩ := x
              rw [hsg] at m0 m1 m2
              simp only [Option.isSome, mFn, mNd] at m0 m1 m2
              by_cases e1 : xf = f
              · by_cases e2 : xn = k
                · subst e1
                  subst e2
                  have D2 : Hid (decide (s g = some (xf, xn)) = true) := by show _ = _; rw [hsg]; simp
                  clear hsg
                  cases hy : q xf xn
                  · rw [hy] at y1
                    go_wp2_with fail
                    go_ret
                    exact ⟨ret_int (by rw [HQ.out, st.out, mo3.out, D1.out, D2.out, hy]; rfl), ob.trans (Onw.alloc _ _)⟩
                  · rw [hy] at y1
                    go_wp2_with fail
                    go_roundw
                    case rel => exact ⟨xn + 1, by omega, by go_num, ob.trans (Onw.alloc _ _), BX.onw (Onw.alloc _ _), by rw [HQ.out, st.out, mo3.out, D1.out, D2.out, hy]; rfl⟩
                    case measure => simp [intOf]; omega
                · have D2 : Hid (decide (s g = some (f, k)) = false) := by show _ = _; rw [hsg]; simp [e2]
                  have e2' : ((xn : Int) == (k : Int)) = false := by simp; omega
                  have e2'' : ¬ ((xn : Int) = (k : Int)) := by omega
                  subst e1
                  clear hsg
                  go_wp2_with fail
                  go_ret
                  exact ⟨ret_int (by rw [HQ.out, st.out, mo3.out, D1.out, D2.out]; rfl), ob.trans (Onw.alloc _ _)⟩
              · have D2 : Hid (decide (s g = some (f, k)) = false) := by show _ = _; rw [hsg]; simp [e1]
                have e1' : ((xf : Int) == (f : Int)) = false := by simp; omega
                have e1'' : ¬ ((xf : Int) = (f : Int)) := by omega
                clear hsg
                go_wp2_with fail
                go_ret
                exact ⟨ret_int (by rw [HQ.out, st.out, mo3.out, D1.out, D2.out]; rfl), ob.trans (Onw.alloc _ _)⟩
          · have hfg' : ¬ (f : Int) < (g : Int) := by omega
            have D1 : Hid (decide ((f : Int) < (g : Int)) = false) := by show _ = _; simp; omega
            go_wp2_with fail
            go_ret
            exact ⟨ret_int (by rw [HQ.out, st.out, mo3.out, D1.out]; rfl), ob.trans (Onw.alloc _ _)⟩
        · have a2 := as_fn_no (d := ((fm f).nm k).toND) nk2 h36
          have mo2 : Hid (madeOk (fm f).toFD f s (q f) k = true) := by show _ = _; rw [mo.out, if_neg h37, if_neg h36]
          clear h36 h37
          go_wp2_with fail
          go_roundw
          case rel => exact ⟨k + 1, by omega, by go_num, ob, BX, by rw [HQ.out, st.out, mo2.out]; rfl⟩
          case measure => simp [intOf]; omega
    · have st : Hid (findN (fun n => !madeOk (fm f).toFD f s (q f) n) k ((fm f).nn - k) = none) := by
        show _ = _
        rw [show (fm f).nn - k = 0 from by omega]; rfl
      go_wp2_with fail
      go_ret
      exact ⟨ret_int (by rw [HQ.out, st.out]; rfl), ob⟩
end Go.Proofs.YtjebijnndfkinaaGreat
