import Derived.Test.YtnokgdgikdgaeaaGreatP20
import Derived.Test.YtnokgdgikdgaeaaGreatP02
namespace Go.Proofs.YtnokgdgikdgaeaaGreat
open Go.RowKit
attribute [local go_sem] run_store_float

theorem find6_step (u : UD) (d : FD) (par : Nat → Int) (seen : Nat → Bool) (n m : Nat) : find6 u d par seen n (m + 1) = if (refsB u d par n seen).1 then find6 u d par (refsB u d par n seen).2 (n + 1) m else some n := rfl
theorem ra_lt {w w2 : World} {m : NM} (h : m.At w) (ho : Onw w w2) (h0 : 0 < m.nr) : ∀ x, m.ra = some x → x.block < w2.heap.size := by
  intro x hx
  obtain ⟨b, off, ha, hc⟩ := h.1 h0
  rw [hx] at ha
  cases ha
  exact Nat.lt_of_lt_of_le (cell_lt (hc 0 h0)) ho.size

set_option maxRecDepth 100000 in
set_option maxHeartbeats 4000000 in
theorem l3third_any (u : UM) (w : World) (hn : u.nf ≤ 1048576) (hs : ∀ i, i < u.nf → (u.fm i).Small) (hok : ∀ f, f < u.nf → Ok6 (u.fm f).toFD) (ha : u.At w) :
    Calls Tryz.prog 13 #[.agg #[.slice u.fa u.nf u.fc]] w fun e w' => e = .returned (fval (thirdB u.toUD)) ∧ Onw w w' := by
  obtain ⟨k, fm, fa, fc⟩ := u
  simp only at *
  have HS : Hid _ := hs
  have HOK : Hid _ := hok
  clear hs hok
  go_enter Tryz.func13, Tryz.ntmps13
  go_wp2_with fail
  go_loopw [24] (fun i wr => ∃ f : Nat, f ≤ k ∧ i = .int .i64 f ∧ UBox w wr fa k fc ∧ findF (bad6 (UM.toUD ⟨k, fm, fa, fc⟩)) 0 k = findF (bad6 (UM.toUD ⟨k, fm, fa, fc⟩)) f (k - f)) (fun i _ => k - (intOf i).toNat)
  case atStart => exact ⟨0, Nat.zero_le _, rfl, UBox.new _ _ _ _, rfl⟩
  case round =>
    obtain ⟨f, hf, rfl, U, hr⟩ := hrel
    have HR : Hid _ := hr
    clear hr
    by_cases hlt : f < k
    · obtain ⟨b, off, rfl, hc⟩ := FnsAt.onw U.onw ha |>.1 (by show 0 < k; omega)
      obtain ⟨c0, c1, c2, c3, c4, c5, c6⟩ := hc f hlt
      obtain ⟨s1, s2, s3, s4⟩ := HS.out f hlt
      have HS4 : Hid _ := s4
      have O6 := HOK.out f hlt
      have st : Hid (findF (bad6 (UM.toUD ⟨k, fm, some ⟨b, off, none⟩, fc⟩)) f (k - f) = match bad6 (UM.toUD ⟨k, fm, some ⟨b, off, none⟩, fc⟩) f with | some n => some (f, n) | none => findF (bad6 (UM.toUD ⟨k, fm, some ⟨b, off, none⟩, fc⟩)) (f + 1) (k - (f + 1))) := by
        show _ = _
        rw [show k - f = (k - (f + 1)) + 1 from by omega]; rfl
      have aF := ha.2 f hlt
      simp only at aF
      clear hc s4
      have hmk := run_make_bools (fm f).nv s1
      go_wp2_with fail
      refine (l3grow_any _ (fm f).nn _ (fm f).nm _ O6.ok3.pos s3 (fun i hi => (HS4.out i hi).2) O6.ok3.kids (by exact aF.2.2.onw (U.onw.trans (Onw.alloc _ _)))).mono ?_
      rintro e w1 ⟨pa, da, rfl, hb1, hpar, hdep, hfp, _⟩
      have X1 := Blk.onw hb1 (Blk.new wr 61 #[.string (fm f).name, .int .i64 (fm f).line, .int .i64 (fm f).params, .bool (fm f).rest, .slice (fm f).va (fm f).nv (fm f).vc, .slice (fm f).ua (fm f).nu (fm f).uc, .slice (fm f).na (fm f).nn (fm f).nc])
      have U1 := U.go ((Onw.alloc _ _).trans hb1)
      have x1 := X1.cell
      have zx := X1.lt
      clear c0 c1 c2 c3 c4 c5 c6 U hb1
      go_wp2_with fail
      clear x1 hmk
      have P0 := O6.par0
      have P1 := O6.par1
      change 0 ≤ (fm f).params at P0
      change (fm f).params ≤ ((fm f).nv : Int) at P1
      have T2 := Blk.new w1 67 #[.slice pa (fm f).nn (fm f).nn, .slice da (fm f).nn (fm f).nn]
      have O2 := Onw.alloc w1 (Obj.cells #[.slice pa (fm f).nn (fm f).nn, .slice da (fm f).nn (fm f).nn] 67)
      have S3 := Blk.new (w1.alloc (Obj.cells #[.slice pa (fm f).nn (fm f).nn, .slice da (fm f).nn (fm f).nn] 67)) 4 (madeCells #[.bool false] (fm f).nv)
      have O3 := Onw.alloc (w1.alloc (Obj.cells #[.slice pa (fm f).nn (fm f).nn, .slice da (fm f).nn (fm f).nn] 67)) (Obj.cells (madeCells #[.bool false] (fm f).nv) 4)
      have hz2 : (w1.alloc (Obj.cells #[.slice pa (fm f).nn (fm f).nn, .slice da (fm f).nn (fm f).nn] 67)).heap.size = w1.heap.size + 1 := by simp
      generalize w1.alloc (Obj.cells #[.slice pa (fm f).nn (fm f).nn, .slice da (fm f).nn (fm f).nn] 67) = w2 at *
      rw [hz2] at S3
      have HZ2 : Hid _ := hz2
      have hz2' : w1.heap.size + 1 ≤ w2.heap.size := by omega
      clear hz2
      go_loopw [7] (fun i wr => ∃ v : Nat, v ≤ (fm f).params.toNat ∧ i = .int .i64 v ∧ ∃ cur, Onw w2 wr ∧ Blk wr (w1.heap.size + 1) 4 cur ∧ BArr cur (fm f).nv (fun x => decide (x < v))) (fun i _ => (fm f).params.toNat - (intOf i).toNat)
      case atStart => exact ⟨0, Nat.zero_le _, rfl, _, O3, S3, (made_bool _).congr fun k hk => by simp⟩
      case round =>
        clear O3 S3
        obtain ⟨v, hv, rfl, cur, ob, S, A⟩ := hrel
        have X := X1.onw (O2.trans ob)
        have x := X.cell
        by_cases hvt : v < (fm f).params.toNat
        · obtain ⟨y, sv⟩ := S.some (j := v) (by rw [A.1]; omega)
          have sf := S.free
          go_wp2_with fail
          go_roundw
          case rel => exact ⟨v + 1, by omega, by go_num, _, below_set ob (by have := HZ2.out; omega) _, S.set v _, (A.set v true).congr fun x hx => by by_cases e : x = v <;> simp [e]; omega⟩
          case measure => simp [intOf]; omega
        · go_wp2_with fail
          clear x
          have A0 : BArr cur (fm f).nv (seen0 (fm f).params) := A.congr fun x hx => by
            unfold seen0
            by_cases e : x < v
            · rw [decide_eq_true e, decide_eq_true (by omega)]
            · rw [decide_eq_false e, decide_eq_false (by omega)]
          have e6 : Hid (bad6 (UM.toUD ⟨k, fm, some ⟨b, off, none⟩, fc⟩) f = find6 (UM.toUD ⟨k, fm, some ⟨b, off, none⟩, fc⟩) (fm f).toFD (parE (ndOf (fm f).nm) (fm f).nn) (seen0 (fm f).params) 0 (fm f).nn) := rfl
          go_loopw [48] (fun i wr => ∃ (n : Nat) (cur : Array Value) (seen : Nat → Bool), n ≤ (fm f).nn ∧ i = .int .i64 n ∧ Onw w2 wr ∧ Blk wr (w1.heap.size + 1) 4 cur ∧ BArr cur (fm f).nv seen ∧ bad6 (UM.toUD ⟨k, fm, some ⟨b, off, none⟩, fc⟩) f = find6 (UM.toUD ⟨k, fm, some ⟨b, off, none⟩, fc⟩) (fm f).toFD (parE (ndOf (fm f).nm) (fm f).nn) seen n ((fm f).nn - n)) (fun i _ => (fm f).nn - (intOf i).toNat)
          case atStart => exact ⟨0, cur, _, Nat.zero_le _, rfl, ob, S, A0, e6.out⟩
          case round =>
            clear A A0 S ob e6 X
            obtain ⟨n, cur, seen, hnn, rfl, ob, S, A, hq⟩ := hrel
            have HQ : Hid _ := hq
            clear hq
            have o12 := O2.trans ob
            have U2 := U1.go o12
            by_cases hnt : n < (fm f).nn
            · have X := X1.onw o12
              have T := T2.onw ob
              have x := X.cell
              have t := T.cell
              have ux := U2.b0.cell
              go_wp2_with fail
              refine (l3refs_any ⟨k, fm, some ⟨b, off, none⟩, fc⟩ (fm f) pa da _ _ (parE (ndOf (fm f).nm) (fm f).nn) n (w1.heap.size + 1) cur seen _ hnt (HS.out f hlt) O6 (parE_ok _ _ O6.ok3.kids) (by exact aF.onw U2.onw) (by exact hpar.onw o12) S A (fun h0 => by have := ra_lt (aF.2.2.2 n hnt) (U1.onw.trans O2) h0; rw [HZ2.out] at this; exact this)).mono ?_
              rintro e w3 ⟨cur', rfl, hb3, S', A'⟩
              have ob3 : Onw w2 w3 := Below.trans ob (Below.mono hb3 (by rw [HZ2.out]; exact Nat.le_refl _))
              have sn : Hid (find6 (UM.toUD ⟨k, fm, some ⟨b, off, none⟩, fc⟩) (fm f).toFD (parE (ndOf (fm f).nm) (fm f).nn) seen n ((fm f).nn - n) = if (refsB (UM.toUD ⟨k, fm, some ⟨b, off, none⟩, fc⟩) (fm f).toFD (parE (ndOf (fm f).nm) (fm f).nn) n seen).1 then find6 (UM.toUD ⟨k, fm, some ⟨b, off, none⟩, fc⟩) (fm f).toFD (parE (ndOf (fm f).nm) (fm f).nn) (refsB (UM.toUD ⟨k, fm, some ⟨b, off, none⟩, fc⟩) (fm f).toFD (parE (ndOf (fm f).nm) (fm f).nn) n seen).2 (n + 1) ((fm f).nn - (n + 1)) else some n) := by
                show _ = _
                rw [show (fm f).nn - n = ((fm f).nn - (n + 1)) + 1 from by omega]; rfl
              clear x t ux X T U2 hb3
              have U3 := U1.go (O2.trans ob3)
              generalize hRB : refsB (UM.toUD ⟨k, fm, some ⟨b, off, none⟩, fc⟩) (fm f).toFD (parE (ndOf (fm f).nm) (fm f).nn) n seen = RB at *
              have HRB : Hid _ := hRB
              clear hRB
              obtain ⟨r1, r2⟩ := RB
              simp only at sn A'
              cases r1
              · have SN : Hid (find6 (UM.toUD ⟨k, fm, some ⟨b, off, none⟩, fc⟩) (fm f).toFD (parE (ndOf (fm f).nm) (fm f).nn) seen n ((fm f).nn - n) = some n) := sn.out
                go_wp2_with fail
                refine (l3fault_any _ _ _ _).mono ?_
                rintro e w4 ⟨rfl, hb4⟩
                have U4 := U3.go hb4
                have bq := U4.b1.cell
                have bf := U4.b1.free
                go_wp2_with fail
                exact bodyPost_ret (v := .agg #[.int .i64 6, .int .i64 f, .int .i64 n]) (by simp [results, Tryz.results13, go_sem, bq]) rfl ⟨ret_flt (x := ⟨6, f, n⟩) (by rw [thirdB, show (UM.toUD ⟨k, fm, some ⟨b, off, none⟩, fc⟩).nf = k from rfl, HR.out, st.out, HQ.out, SN.out]; rfl), below_set (below_set (below_set U4.onw (by omega) _) (by omega) _) (by omega) _⟩
              · have SN : Hid (find6 (UM.toUD ⟨k, fm, some ⟨b, off, none⟩, fc⟩) (fm f).toFD (parE (ndOf (fm f).nm) (fm f).nn) seen n ((fm f).nn - n) = find6 (UM.toUD ⟨k, fm, some ⟨b, off, none⟩, fc⟩) (fm f).toFD (parE (ndOf (fm f).nm) (fm f).nn) r2 (n + 1) ((fm f).nn - (n + 1))) := sn.out
                go_wp2_with fail
                go_roundw
                case rel => exact ⟨n + 1, cur', r2, by omega, by go_num, ob3, S', A', by rw [HQ.out, SN.out]⟩
                case measure => simp [intOf]; omega
            · have sn : Hid (find6 (UM.toUD ⟨k, fm, some ⟨b, off, none⟩, fc⟩) (fm f).toFD (parE (ndOf (fm f).nm) (fm f).nn) seen n ((fm f).nn - n) = none) := by
                show _ = _
                rw [show (fm f).nn - n = 0 from by omega]; rfl
              go_wp2_with fail
              go_roundw
              case rel => exact ⟨f + 1, by omega, by go_num, U2, by rw [HR.out, st.out, HQ.out, sn.out]⟩
              case measure => simp [intOf]; omega
    · have st : Hid (findF (bad6 (UM.toUD ⟨k, fm, fa, fc⟩)) f (k - f) = none) := by
        show _ = _
        rw [show k - f = 0 from by omega]; rfl
      have fin6 : Hid (fltOf 6 (findF (bad6 (UM.toUD ⟨k, fm, fa, fc⟩)) 0 k) = none) := by
        show _ = _
        rw [HR.out, st.out]; rfl
      clear HR st
      have bx := U.b0.cell
      go_wp2_with fail
      clear bx hlt hf
      go_loopw [66] (fun i wr => ∃ f : Nat, f ≤ k ∧ i = .int .i64 f ∧ UBox w wr fa k fc ∧ findF (fun f => findN (bad7 (fm f).toFD) 0 (fm f).nn) 0 k = findF (fun f => findN (bad7 (fm f).toFD) 0 (fm f).nn) f (k - f)) (fun i _ => k - (intOf i).toNat)
      case atStart => exact ⟨0, Nat.zero_le _, rfl, U, rfl⟩
      case round =>
        clear U
        obtain ⟨f, hf, rfl, U, hr⟩ := hrel
        have HR : Hid _ := hr
        clear hr
        by_cases hlt : f < k
        · obtain ⟨b, off, rfl, hc⟩ := FnsAt.onw U.onw ha |>.1 (by show 0 < k; omega)
          obtain ⟨c0, c1, c2, c3, c4, c5, c6⟩ := hc f hlt
          obtain ⟨s1, s2, s3, s4⟩ := HS.out f hlt
          have HS4 : Hid _ := s4
          have O6 := HOK.out f hlt
          have st : Hid (findF (fun f => findN (bad7 (fm f).toFD) 0 (fm f).nn) f (k - f) = match findN (bad7 (fm f).toFD) 0 (fm f).nn with | some n => some (f, n) | none => findF (fun f => findN (bad7 (fm f).toFD) 0 (fm f).nn) (f + 1) (k - (f + 1))) := by
            show _ = _
            rw [show k - f = (k - (f + 1)) + 1 from by omega]; rfl
          have aF := ha.2 f hlt
          simp only at aF
          obtain ⟨nb, no, hna, hnc⟩ := aF.2.2.1 O6.ok3.pos
          have HNC : Hid _ := hnc
          clear hc s4 hnc
          go_wp2_with fail
          refine (l3grow_any _ (fm f).nn _ (fm f).nm _ O6.ok3.pos s3 (fun i hi => (HS4.out i hi).2) O6.ok3.kids (by rw [← hna]; exact aF.2.2.onw (U.onw.trans (Onw.alloc _ _)))).mono ?_
          rintro e w1 ⟨pa, da, rfl, hb1, hpar, hdep, hfp, _⟩
          have X1 := Blk.onw hb1 (Blk.new wr 61 #[.string (fm f).name, .int .i64 (fm f).line, .int .i64 (fm f).params, .bool (fm f).rest, .slice (fm f).va (fm f).nv (fm f).vc, .slice (fm f).ua (fm f).nu (fm f).uc, .slice (some ⟨nb, no, none⟩) (fm f).nn (fm f).nc])
          have U1 := U.go ((Onw.alloc _ _).trans hb1)
          have x1 := X1.cell
          have zx := X1.lt
          clear c0 c1 c2 c3 c4 c5 c6 U hb1
          go_wp2_with fail
          clear x1
          have T2 := Blk.new w1 67 #[.slice pa (fm f).nn (fm f).nn, .slice da (fm f).nn (fm f).nn]
          have O2 := Onw.alloc w1 (Obj.cells #[.slice pa (fm f).nn (fm f).nn, .slice da (fm f).nn (fm f).nn] 67)
          generalize w1.alloc (Obj.cells #[.slice pa (fm f).nn (fm f).nn, .slice da (fm f).nn (fm f).nn] 67) = w2 at *
          go_loopw [77] (fun i wr => ∃ n : Nat, n ≤ (fm f).nn ∧ i = .int .i64 n ∧ Onw w2 wr ∧ findN (bad7 (fm f).toFD) 0 (fm f).nn = findN (bad7 (fm f).toFD) n ((fm f).nn - n)) (fun i _ => (fm f).nn - (intOf i).toNat)
          case atStart => exact ⟨0, Nat.zero_le _, rfl, Onw.refl _, rfl⟩
          case round =>
            obtain ⟨n, hnn, rfl, ob, hq⟩ := hrel
            have HQ : Hid _ := hq
            clear hq
            have o12 := O2.trans ob
            have U2 := U1.go o12
            by_cases hnt : n < (fm f).nn
            · have X := X1.onw o12
              have T := T2.onw ob
              have x := X.cell
              have t := T.cell
              have n0 := cell_onw U2.onw (HNC.out n hnt).c0
              have sn : Hid (findN (bad7 (fm f).toFD) n ((fm f).nn - n) = if bad7 (fm f).toFD n = true then some n else findN (bad7 (fm f).toFD) (n + 1) ((fm f).nn - (n + 1))) := by
                show _ = _
                rw [show (fm f).nn - n = ((fm f).nn - (n + 1)) + 1 from by omega]; rfl
              have b7 : Hid (bad7 (fm f).toFD n = ((((fm f).nm n).kind == 9 || ((fm f).nm n).kind == 10) && !loopUp (ndOf (fm f).nm) (parE (ndOf (fm f).nm) (fm f).nn) (fm f).nn n)) := rfl
              have cs : (((fm f).nm n).kind == 9) = true ∨ (((fm f).nm n).kind == 9) = false ∧ (((fm f).nm n).kind == 10) = true ∨ (((fm f).nm n).kind == 9) = false ∧ (((fm f).nm n).kind == 10) = false := by
                cases (((fm f).nm n).kind == 9) <;> cases (((fm f).nm n).kind == 10) <;> simp
              have HL := O6.lps
              have hcall := fun W (h1 : (fm f).At W) (h2 : IntsAt W pa (fm f).nn (parE (ndOf (fm f).nm) (fm f).nn)) => l3inloop_any (fm f) pa da (fm f).nn (fm f).nn (parE (ndOf (fm f).nm) (fm f).nn) n W hnt s3 (fun i hi => (HS4.out i hi).2) (parE_ok _ _ O6.ok3.kids) HL h1 h2
              rw [hna] at hcall
              have HCALL : Hid _ := hcall
              clear hcall HL
              have HAF := aF.onw U2.onw
              have HPA := hpar.onw o12
              rcases cs with e9 | ⟨e9, e10⟩ | ⟨e9, e10⟩
              rotate_right
              · have B7 : Hid (bad7 (fm f).toFD n = false) := by show _ = _; rw [b7.out, e9, e10]; rfl
                go_wp2_with fail
                go_roundw
                case rel => exact ⟨n + 1, by omega, by go_num, ob, by rw [HQ.out, sn.out, B7.out]; rfl⟩
                case measure => simp [intOf]; omega
              all_goals
                have B7 : Hid (bad7 (fm f).toFD n = !loopUp (ndOf (fm f).nm) (parE (ndOf (fm f).nm) (fm f).nn) (fm f).nn n) := by show _ = _; rw [b7.out, e9]; simp [*]
                go_wp2_with fail
                refine (HCALL.out _ HAF HPA).mono ?_
                rintro e w3 ⟨rfl, hb3⟩
                have ob3 : Onw w2 w3 := ob.trans hb3
                clear x t n0 X T U2 HAF HPA
                have U3 := U1.go (O2.trans ob3)
                cases hx : loopUp (ndOf (fm f).nm) (parE (ndOf (fm f).nm) (fm f).nn) (fm f).nn n
                · go_wp2_with fail
                  refine (l3fault_any _ _ _ _).mono ?_
                  rintro e w4 ⟨rfl, hb4⟩
                  have U4 := U3.go hb4
                  have bq := U4.b1.cell
                  have bf := U4.b1.free
                  go_wp2_with fail
                  exact bodyPost_ret (v := .agg #[.int .i64 7, .int .i64 f, .int .i64 n]) (by simp [results, Tryz.results13, go_sem, bq]) rfl ⟨ret_flt (x := ⟨7, f, n⟩) (by
                    have h7 : fltOf 7 (findF (fun f => findN (bad7 (fm f).toFD) 0 (fm f).nn) 0 k) = some ⟨7, f, n⟩ := by rw [HR.out, st.out, HQ.out, sn.out, B7.out, hx]; rfl
                    exact third_7 (u := UM.toUD ⟨k, fm, some ⟨b, off, none⟩, fc⟩) fin6.out h7), below_set (below_set (below_set U4.onw (by omega) _) (by omega) _) (by omega) _⟩
                · go_wp2_with fail
                  go_roundw
                  case rel => exact ⟨n + 1, by omega, by go_num, ob3, by rw [HQ.out, sn.out, B7.out, hx]; rfl⟩
                  case measure => simp [intOf]; omega
            · have sn : Hid (findN (bad7 (fm f).toFD) n ((fm f).nn - n) = none) := by
                show _ = _
                rw [show (fm f).nn - n = 0 from by omega]; rfl
              go_wp2_with fail
              go_roundw
              case rel => exact ⟨f + 1, by omega, by go_num, U2, by rw [HR.out, st.out, HQ.out, sn.out]⟩
              case measure => simp [intOf]; omega
        · have st : Hid (findF (fun f => findN (bad7 (fm f).toFD) 0 (fm f).nn) f (k - f) = none) := by
            show _ = _
            rw [show k - f = 0 from by omega]; rfl
          have fin7 : Hid (fltOf 7 (findF (fun f => findN (bad7 (fm f).toFD) 0 (fm f).nn) 0 k) = none) := by
            show _ = _
            rw [HR.out, st.out]; rfl
          clear HR st
          have bx := U.b0.cell
          have hmk := run_make_bools k hn
          have z0 := U.b0.lt
          go_wp2_with fail
          clear bx hlt hf hmk
          have S3 := Blk.new wr 4 (madeCells #[.bool false] k)
          have O3 := Onw.alloc wr (Obj.cells (madeCells #[.bool false] k) 4)
          rename World => wm
          go_loopw [111] (fun i wr => ∃ (f : Nat) (cur : Array Value) (made : Nat → Bool), f ≤ k ∧ i = .int .i64 f ∧ Onw wm wr ∧ Blk wr wm.heap.size 4 cur ∧ BArr cur k made ∧ find8 (UM.toUD ⟨k, fm, fa, fc⟩) (fun _ => false) 0 k = find8 (UM.toUD ⟨k, fm, fa, fc⟩) made f (k - f)) (fun i _ => k - (intOf i).toNat)
          case atStart => exact ⟨0, _, _, Nat.zero_le _, rfl, O3, S3, made_bool _, rfl⟩
          case round =>
            clear S3 O3
            rename World => wo
            obtain ⟨f, cur, made, hf, rfl, om, S, A, hr⟩ := hrel
            have HR : Hid _ := hr
            clear hr
            have Um := U.go om
            by_cases hlt : f < k
            · obtain ⟨b, off, rfl, hc⟩ := FnsAt.onw Um.onw ha |>.1 (by show 0 < k; omega)
              obtain ⟨c0, c1, c2, c3, c4, c5, c6⟩ := hc f hlt
              obtain ⟨s1, s2, s3, s4⟩ := HS.out f hlt
              have HS4 : Hid _ := s4
              have O6 := HOK.out f hlt
              have aF := ha.2 f hlt
              simp only at aF
              obtain ⟨nb, no, hna, hnc⟩ := aF.2.2.1 O6.ok3.pos
              have HNC : Hid _ := hnc
              clear hc s4 hnc
              have bx := Um.b0.cell
              go_wp2_with fail
              refine (l3grow_any _ (fm f).nn _ (fm f).nm _ O6.ok3.pos s3 (fun i hi => (HS4.out i hi).2) O6.ok3.kids (by rw [← hna]; exact aF.2.2.onw (Um.onw.trans (Onw.alloc _ _)))).mono ?_
              rintro e w1 ⟨pa, da, rfl, hb1, hpar, hdep, hfp, _⟩
              have X1 := Blk.onw hb1 (Blk.new wo 61 #[.string (fm f).name, .int .i64 (fm f).line, .int .i64 (fm f).params, .bool (fm f).rest, .slice (fm f).va (fm f).nv (fm f).vc, .slice (fm f).ua (fm f).nu (fm f).uc, .slice (some ⟨nb, no, none⟩) (fm f).nn (fm f).nc])
              have om1 := om.trans ((Onw.alloc _ _).trans hb1)
              have S1 := S.onw ((Onw.alloc _ _).trans hb1)
              have x1 := X1.cell
              have zx := X1.lt
              have zS := S.lt
              simp only [World.size_alloc] at hfp
              have z1 : wo.heap.size + 1 ≤ w1.heap.size := by have := hb1.size; simp at this; omega
              clear c0 c1 c2 c3 c4 c5 c6 hb1 bx
              go_wp2_with fail
              clear x1
              have T2 := Blk.new w1 67 #[.slice pa (fm f).nn (fm f).nn, .slice da (fm f).nn (fm f).nn]
              have O2 := Onw.alloc w1 (Obj.cells #[.slice pa (fm f).nn (fm f).nn, .slice da (fm f).nn (fm f).nn] 67)
              generalize w1.alloc (Obj.cells #[.slice pa (fm f).nn (fm f).nn, .slice da (fm f).nn (fm f).nn] 67) = w2 at *
              go_loopw [122] (fun i wr => ∃ (n : Nat) (cur : Array Value) (md : Nat → Bool), n ≤ (fm f).nn ∧ i = .int .i64 n ∧ Onw wm wr ∧ Blk wr wm.heap.size 4 cur ∧ BArr cur k md ∧ Blk wr wo.heap.size 61 #[.string (fm f).name, .int .i64 (fm f).line, .int .i64 (fm f).params, .bool (fm f).rest, .slice (fm f).va (fm f).nv (fm f).vc, .slice (fm f).ua (fm f).nu (fm f).uc, .slice (some ⟨nb, no, none⟩) (fm f).nn (fm f).nc] ∧ Blk wr w1.heap.size 67 #[.slice pa (fm f).nn (fm f).nn, .slice da (fm f).nn (fm f).nn] ∧ IntsAt wr pa (fm f).nn (parE (ndOf (fm f).nm) (fm f).nn) ∧
                  make8 (UM.toUD ⟨k, fm, some ⟨b, off, none⟩, fc⟩) f (parE (ndOf (fm f).nm) (fm f).nn) made 0 (fm f).nn = make8 (UM.toUD ⟨k, fm, some ⟨b, off, none⟩, fc⟩) f (parE (ndOf (fm f).nm) (fm f).nn) md n ((fm f).nn - n)) (fun i _ => (fm f).nn - (intOf i).toNat)
              case atStart => exact ⟨0, _, _, Nat.zero_le _, rfl, om1.trans O2, S1.onw O2, A, X1.onw O2, T2, hpar.onw O2, rfl⟩
              case round =>
                clear S1 A S X1 T2 hpar
                obtain ⟨n, cur, md, hnn, rfl, ob, S, A, X, T, hpar, hq⟩ := hrel
                have HQ : Hid _ := hq
                clear hq
                have U2 := U.go ob
                have fnd : Hid (∀ n', make8 (UM.toUD ⟨k, fm, some ⟨b, off, none⟩, fc⟩) f (parE (ndOf (fm f).nm) (fm f).nn) made 0 (fm f).nn = (some n', md) → find8 (UM.toUD ⟨k, fm, some ⟨b, off, none⟩, fc⟩) (fun _ => false) 0 k = (some (f, n'), md)) := by
                  intro n' h
                  rw [HR.out, show k - f = (k - (f + 1)) + 1 from by omega, find8]
                  have h' : make8 (UM.toUD ⟨k, fm, some ⟨b, off, none⟩, fc⟩) f (parE ((UM.toUD ⟨k, fm, some ⟨b, off, none⟩, fc⟩).fn f).nd ((UM.toUD ⟨k, fm, some ⟨b, off, none⟩, fc⟩).fn f).nn) made 0 ((UM.toUD ⟨k, fm, some ⟨b, off, none⟩, fc⟩).fn f).nn = (some n', md) := h
                  rw [h']
                by_cases hnt : n < (fm f).nn
                · have x := X.cell
                  have t := T.cell
                  have ux := U2.b0.cell
                  have n0 := cell_onw U2.onw (HNC.out n hnt).c0
                  have n6 := cell_onw U2.onw (HNC.out n hnt).c6
                  have st : Hid (make8 (UM.toUD ⟨k, fm, some ⟨b, off, none⟩, fc⟩) f (parE (ndOf (fm f).nm) (fm f).nn) md n ((fm f).nn - n) = if ((fm f).nm n).kind = 37 ∧ (fm f).rest = false then (some n, md) else if ((fm f).nm n).kind ≠ 36 then make8 (UM.toUD ⟨k, fm, some ⟨b, off, none⟩, fc⟩) f (parE (ndOf (fm f).nm) (fm f).nn) md (n + 1) ((fm f).nn - (n + 1)) else if ((fm f).nm n).rf 0 ≤ f ∨ md (((fm f).nm n).rf 0).toNat = true ∨ upsB (fm f).toFD (parE (ndOf (fm f).nm) (fm f).nn) n (fm (((fm f).nm n).rf 0).toNat).toFD = false then (some n, md) else make8 (UM.toUD ⟨k, fm, some ⟨b, off, none⟩, fc⟩) f (parE (ndOf (fm f).nm) (fm f).nn) (fun x => if x = (((fm f).nm n).rf 0).toNat then true else md x) (n + 1) ((fm f).nn - (n + 1))) := by
                    show _ = _
                    rw [show (fm f).nn - n = ((fm f).nn - (n + 1)) + 1 from by omega]; rfl
                  by_cases h37 : ((fm f).nm n).kind = 37
                  · have e37 : (((fm f).nm n).kind == 37) = true := by simp [h37]
                    have e36 : (((fm f).nm n).kind != 36) = true := by simp [h37]
                    cases hrest : (fm f).rest
                    · have fin : Hid (thirdB (UM.toUD ⟨k, fm, some ⟨b, off, none⟩, fc⟩) = some ⟨8, f, n⟩) := third_8 (u := (UM.toUD ⟨k, fm, some ⟨b, off, none⟩, fc⟩)) fin6.out fin7.out (fnd.out n (by rw [HQ.out, st.out, if_pos ⟨h37, hrest⟩]))
                      clear h37
                      go_wp2_with fail
                      refine (l3fault_any _ _ _ _).mono ?_
                      rintro e w4 ⟨rfl, hb4⟩
                      have U4 := U2.go hb4
                      have bq := U4.b1.cell
                      have bf := U4.b1.free
                      clear x t ux n0 n6
                      go_wp2_with fail
                      exact bodyPost_ret (v := .agg #[.int .i64 8, .int .i64 f, .int .i64 n]) (by simp [results, Tryz.results13, go_sem, bq]) rfl ⟨ret_flt (x := ⟨8, f, n⟩) fin.out, below_set (below_set (below_set U4.onw (by omega) _) (by omega) _) (by omega) _⟩
                    · have nx : Hid (make8 (UM.toUD ⟨k, fm, some ⟨b, off, none⟩, fc⟩) f (parE (ndOf (fm f).nm) (fm f).nn) md n ((fm f).nn - n) = make8 (UM.toUD ⟨k, fm, some ⟨b, off, none⟩, fc⟩) f (parE (ndOf (fm f).nm) (fm f).nn) md (n + 1) ((fm f).nn - (n + 1))) := by
                        show _ = _
                        rw [st.out, if_neg (by rw [hrest]; simp), if_pos (by omega)]
                      clear h37
                      go_wp2_with fail
                      go_roundw
                      case rel => exact ⟨n + 1, cur, md, by omega, by go_num, ob, S, A, (by first | exact X | (have h := X; rw [hrest] at h; exact h)), T, hpar, by rw [HQ.out, nx.out]⟩
                      case measure => simp [intOf]; omega
                  · have e37 : (((fm f).nm n).kind == 37) = false := by simp [h37]
                    by_cases h36 : ((fm f).nm n).kind = 36
                    · have e36 : (((fm f).nm n).kind != 36) = false := by simp [h36]
                      obtain ⟨g0, g1⟩ := six_fn (u := (UM.toUD ⟨k, fm, some ⟨b, off, none⟩, fc⟩)) fin6.out hlt hnt h36
                      change 0 ≤ ((fm f).nm n).rf 0 at g0
                      change ((fm f).nm n).rf 0 < (k : Int) at g1
                      obtain ⟨q, hq⟩ := Int.eq_ofNat_of_zero_le g0
                      have hr1 := O6.one n hnt (.inr (.inr h36))
                      change 0 < ((fm f).nm n).nr at hr1
                      obtain ⟨rb, ro, hra, hrc⟩ := ((aF.2.2.2 n hnt).1.onw U2.onw) hr1
                      have hr0 := hrc 0 hr1
                      rw [Nat.add_zero, hq] at hr0
                      have hqk : q < k := by omega
                      have st2 : Hid (make8 (UM.toUD ⟨k, fm, some ⟨b, off, none⟩, fc⟩) f (parE (ndOf (fm f).nm) (fm f).nn) md n ((fm f).nn - n) = if (q : Int) ≤ f ∨ md q = true ∨ upsB (fm f).toFD (parE (ndOf (fm f).nm) (fm f).nn) n (fm q).toFD = false then (some n, md) else make8 (UM.toUD ⟨k, fm, some ⟨b, off, none⟩, fc⟩) f (parE (ndOf (fm f).nm) (fm f).nn) (fun x => if x = q then true else md x) (n + 1) ((fm f).nn - (n + 1))) := by
                        show _ = _
                        rw [st.out, if_neg (fun h => h37 h.1), if_neg (by omega), hq]; rfl
                      have mq : wr.cell? ⟨wm.heap.size, q, none⟩ = some (.bool (md q)) := by rw [S.cell]; exact A.2 q hqk
                      have sf := S.free
                      have qi : (q : Int) < (k : Int) := by omega
                      have ri : (0 : Int) < (((fm f).nm n).nr : Int) := by omega
                      clear h37 h36 hrc hq g0 g1 st
                      by_cases hqf : (q : Int) ≤ f
                      · have fin : Hid (thirdB (UM.toUD ⟨k, fm, some ⟨b, off, none⟩, fc⟩) = some ⟨8, f, n⟩) := third_8 (u := (UM.toUD ⟨k, fm, some ⟨b, off, none⟩, fc⟩)) fin6.out fin7.out (fnd.out n (by rw [HQ.out, st2.out, if_pos (.inl hqf)]))
                        go_wp2_with fail
                        refine (l3fault_any _ _ _ _).mono ?_
                        rintro e w4 ⟨rfl, hb4⟩
                        have U4 := U2.go hb4
                        have bq := U4.b1.cell
                        have bf := U4.b1.free
                        clear x t ux n0 n6 hr0 mq sf
                        go_wp2_with fail
                        exact bodyPost_ret (v := .agg #[.int .i64 8, .int .i64 f, .int .i64 n]) (by simp [results, Tryz.results13, go_sem, bq]) rfl ⟨ret_flt (x := ⟨8, f, n⟩) fin.out, below_set (below_set (below_set U4.onw (by omega) _) (by omega) _) (by omega) _⟩
                      cases hmq : md q
                      rotate_left
                      · have fin : Hid (thirdB (UM.toUD ⟨k, fm, some ⟨b, off, none⟩, fc⟩) = some ⟨8, f, n⟩) := third_8 (u := (UM.toUD ⟨k, fm, some ⟨b, off, none⟩, fc⟩)) fin6.out fin7.out (fnd.out n (by rw [HQ.out, st2.out, if_pos (.inr (.inl hmq))]))
                        rw [hmq] at mq
                        go_wp2_with fail
                        refine (l3fault_any _ _ _ _).mono ?_
                        rintro e w4 ⟨rfl, hb4⟩
                        have U4 := U2.go hb4
                        have bq := U4.b1.cell
                        have bf := U4.b1.free
                        clear x t ux n0 n6 hr0 mq sf
                        go_wp2_with fail
                        exact bodyPost_ret (v := .agg #[.int .i64 8, .int .i64 f, .int .i64 n]) (by simp [results, Tryz.results13, go_sem, bq]) rfl ⟨ret_flt (x := ⟨8, f, n⟩) fin.out, below_set (below_set (below_set U4.onw (by omega) _) (by omega) _) (by omega) _⟩
                      · rw [hmq] at mq
                        go_wp2_with fail
                        refine (l3ups_any ⟨k, fm, some ⟨b, off, none⟩, fc⟩ f q pa da _ _ (parE (ndOf (fm f).nm) (fm f).nn) n _ hlt hqk hn HS.out hnt (parE_ok _ _ O6.ok3.kids) O6.ok3.kids (by exact FnsAt.onw U2.onw ha) hpar).mono ?_
                        rintro e w3 ⟨rfl, hb3⟩
                        have U3 := U2.go hb3
                        have S3 := S.onw hb3
                        clear x t ux n0 n6 hr0 mq sf
                        cases hups : upsB (fm f).toFD (parE (ndOf (fm f).nm) (fm f).nn) n (fm q).toFD
                        · have fin : Hid (thirdB (UM.toUD ⟨k, fm, some ⟨b, off, none⟩, fc⟩) = some ⟨8, f, n⟩) := third_8 (u := (UM.toUD ⟨k, fm, some ⟨b, off, none⟩, fc⟩)) fin6.out fin7.out (fnd.out n (by rw [HQ.out, st2.out, if_pos (.inr (.inr hups))]))
                          go_wp2_with fail
                          refine (l3fault_any _ _ _ _).mono ?_
                          rintro e w4 ⟨rfl, hb4⟩
                          have U4 := U3.go hb4
                          have bq := U4.b1.cell
                          have bf := U4.b1.free
                          go_wp2_with fail
                          exact bodyPost_ret (v := .agg #[.int .i64 8, .int .i64 f, .int .i64 n]) (by simp [results, Tryz.results13, go_sem, bq]) rfl ⟨ret_flt (x := ⟨8, f, n⟩) fin.out, below_set (below_set (below_set U4.onw (by omega) _) (by omega) _) (by omega) _⟩
                        · have nx : Hid (make8 (UM.toUD ⟨k, fm, some ⟨b, off, none⟩, fc⟩) f (parE (ndOf (fm f).nm) (fm f).nn) md n ((fm f).nn - n) = make8 (UM.toUD ⟨k, fm, some ⟨b, off, none⟩, fc⟩) f (parE (ndOf (fm f).nm) (fm f).nn) (fun x => if x = q then true else md x) (n + 1) ((fm f).nn - (n + 1))) := by
                            show _ = _
                            rw [st2.out, if_neg (by rw [hmq, hups]; simp; omega)]
                          obtain ⟨y, my⟩ := S3.some (j := q) (by rw [A.1]; exact hqk)
                          have sf := S3.free
                          go_wp2_with fail
                          go_roundw
                          case rel =>
                            have K := kept_setCell w3 wm.heap.size q (.bool true)
                            exact ⟨n + 1, _, _, by omega, by go_num, below_set (ob.trans hb3) (Nat.le_refl _) _, S3.set q _, A.set q true, (X.onw hb3).kept K (by omega), (T.onw hb3).kept K (by omega), (hpar.onw hb3).kept K (fun x hx => by have := hfp x hx; omega), by rw [HQ.out, nx.out]⟩
                          case measure => simp [intOf]; omega
                    · have e36 : (((fm f).nm n).kind != 36) = true := by simp [h36]
                      have nx : Hid (make8 (UM.toUD ⟨k, fm, some ⟨b, off, none⟩, fc⟩) f (parE (ndOf (fm f).nm) (fm f).nn) md n ((fm f).nn - n) = make8 (UM.toUD ⟨k, fm, some ⟨b, off, none⟩, fc⟩) f (parE (ndOf (fm f).nm) (fm f).nn) md (n + 1) ((fm f).nn - (n + 1))) := by
                        show _ = _
                        rw [st.out, if_neg (fun h => h37 h.1), if_pos h36]
                      clear h37 h36
                      go_wp2_with fail
                      go_roundw
                      case rel => exact ⟨n + 1, cur, md, by omega, by go_num, ob, S, A, X, T, hpar, by rw [HQ.out, nx.out]⟩
                      case measure => simp [intOf]; omega
                · have nx : Hid (make8 (UM.toUD ⟨k, fm, some ⟨b, off, none⟩, fc⟩) f (parE (ndOf (fm f).nm) (fm f).nn) made 0 (fm f).nn = (none, md)) := by
                    show _ = _
                    rw [HQ.out, show (fm f).nn - n = 0 from by omega]; rfl
                  go_wp2_with fail
                  go_roundw
                  case rel =>
                    refine ⟨f + 1, cur, md, by omega, by go_num, ob, S, A, ?_⟩
                    rw [HR.out, show k - f = (k - (f + 1)) + 1 from by omega, find8]
                    have h' : make8 (UM.toUD ⟨k, fm, some ⟨b, off, none⟩, fc⟩) f (parE ((UM.toUD ⟨k, fm, some ⟨b, off, none⟩, fc⟩).fn f).nd ((UM.toUD ⟨k, fm, some ⟨b, off, none⟩, fc⟩).fn f).nn) made 0 ((UM.toUD ⟨k, fm, some ⟨b, off, none⟩, fc⟩).fn f).nn = (none, md) := nx.out
                    rw [h']
                  case measure => simp [intOf]; omega
            · have st : Hid (find8 (UM.toUD ⟨k, fm, fa, fc⟩) (fun _ => false) 0 k = (none, made)) := by
                show _ = _
                rw [HR.out, show k - f = 0 from by omega]; rfl
              clear HR
              have fin : Hid (thirdB (UM.toUD ⟨k, fm, fa, fc⟩) = (match findN (fun f => !made f) 1 (k - 1) with | some f => some ⟨9, f, 0⟩ | none => none)) := third_9 (u := UM.toUD ⟨k, fm, fa, fc⟩) fin6.out fin7.out st.out
              have bx := Um.b0.cell
              go_wp2_with fail
              clear bx hlt hf
              go_loopw [20] (fun i wr => ∃ j : Nat, 1 ≤ j ∧ (j ≤ k ∨ j = 1) ∧ i = .int .i64 j ∧ Onw wm wr ∧ Blk wr wm.heap.size 4 cur ∧ findN (fun f => !made f) 1 (k - 1) = findN (fun f => !made f) j (k - j)) (fun i _ => k - (intOf i).toNat)
              case atStart => exact ⟨1, Nat.le_refl _, .inr rfl, rfl, om, S, rfl⟩
              case round =>
                clear S
                obtain ⟨j, hj1, hj2, rfl, ob, S, hq⟩ := hrel
                have HQ : Hid _ := hq
                clear hq
                have U2 := U.go ob
                have ux := U2.b0.cell
                by_cases hlt : j < k
                · have mq : wr.cell? ⟨wm.heap.size, j, none⟩ = some (.bool (made j)) := by rw [S.cell]; exact A.2 j hlt
                  have sn : Hid (findN (fun f => !made f) j (k - j) = if (!made j) = true then some j else findN (fun f => !made f) (j + 1) (k - (j + 1))) := by
                    show _ = _
                    rw [show k - j = (k - (j + 1)) + 1 from by omega]; rfl
                  cases hm : made j
                  · rw [hm] at mq
                    go_wp2_with fail
                    refine (l3fault_any _ _ _ _).mono ?_
                    rintro e w4 ⟨rfl, hb4⟩
                    have U4 := U2.go hb4
                    have bq := U4.b1.cell
                    have bf := U4.b1.free
                    clear ux mq
                    go_wp2_with fail
                    exact bodyPost_ret (v := .agg #[.int .i64 9, .int .i64 j, .int .i64 0]) (by simp [results, Tryz.results13, go_sem, bq]) rfl ⟨ret_flt (x := ⟨9, j, 0⟩) (by rw [fin.out, HQ.out, sn.out, hm]; rfl), below_set (below_set (below_set U4.onw (by omega) _) (by omega) _) (by omega) _⟩
                  · rw [hm] at mq
                    go_wp2_with fail
                    go_roundw
                    case rel => exact ⟨j + 1, by omega, by omega, by go_num, ob, S, by rw [HQ.out, sn.out, hm]; rfl⟩
                    case measure => simp [intOf]; omega
                · have sn : Hid (findN (fun f => !made f) j (k - j) = none) := by
                    show _ = _
                    rw [show k - j = 0 from by omega]; rfl
                  have bq := U2.b1.cell
                  have bf := U2.b1.free
                  go_wp2_with fail
                  exact bodyPost_ret (v := .agg #[.int .i64 0, .int .i64 0, .int .i64 0]) (by simp [results, Tryz.results13, go_sem, bq]) rfl ⟨ret_none (by rw [fin.out, HQ.out, sn.out]), below_set (below_set (below_set U2.onw (by omega) _) (by omega) _) (by omega) _⟩
end Go.Proofs.YtnokgdgikdgaeaaGreat

namespace Go.Proofs.YtnokgdgikdgaeaaGreat
open Go.RowKit

set_option maxHeartbeats 1000000 in
theorem specCheck_any (u : UM) (w : World) (hn : u.nf ≤ 1048576) (hs : ∀ i, i < u.nf → (u.fm i).Small) (hsum : sumTo (fun i => (u.fm i).nn) u.nf ≤ 1048576) (ha : u.At w) :
    Calls Tryz.prog 5 #[.agg #[.slice u.fa u.nf u.fc]] w fun e w' => e = .returned (fval (specB u.toUD)) ∧ Onw w w' := by
  have HS : Hid _ := hs
  clear hs
  have HU : Hid _ := ha
  go_enter Tryz.func5, Tryz.ntmps5
  go_wp2_with fail
  have U0 := UBox.new w u.fa u.nf u.fc
  refine (l3first_any u _ hn HS.out hsum (by exact ha.onw U0.onw)).mono ?_
  rintro e w1 ⟨rfl, hb1⟩
  have U1 := U0.go hb1
  have bx := U1.b0.cell
  have bq := U1.b1.cell
  have bf := U1.b1.free
  have z0 := U1.b0.lt
  have z1 := U1.b1.lt
  clear U0
  cases hf : firstB u.toUD with
  | some x =>
    have hc : (x.code != 0) = true := by simpa using first_code hf
    have fin : Hid (specB u.toUD = some x) := by show _ = _; rw [specB, hf]
    simp only [fval]
    clear hf
    go_wp2_with fail
    exact bodyPost_ret (v := .agg #[.int .i64 x.code, .int .i64 x.fn, .int .i64 x.node]) (by simp [results, Tryz.results5, go_sem, bq, z1]) rfl ⟨ret_flt fin.out, Onw.trans (below_set (below_set (below_set U1.onw (by omega) _) (by omega) _) (by omega) _) (Onw.alloc _ _)⟩
  | none =>
    simp only [fval]
    have H6 : Hid _ := fun f hf' => ok6_of_first (u := u.toUD) hf (f := f) hf'
    go_wp2_with fail
    have U2 := U1.go (Onw.alloc w1 (Obj.cells #[.int .i64 0, .int .i64 0, .int .i64 0] 27))
    refine (l3second_any u _ hn HS.out (fun f hf' => (H6.out f hf').ok3) (by exact ha.onw U2.onw)).mono ?_
    rintro e w2 ⟨rfl, hb2⟩
    have U3 := U2.go hb2
    clear bx bq bf z0 z1 U1
    have bx := U3.b0.cell
    have bq := U3.b1.cell
    have bf := U3.b1.free
    have z0 := U3.b0.lt
    have z1 := U3.b1.lt
    have HF : Hid _ := hf
    clear hf
    cases hf2 : secondB u.toUD with
    | some x =>
      have hc : (x.code != 0) = true := by simpa using second_code hf2
      have fin : Hid (specB u.toUD = some x) := by show _ = _; rw [specB, HF.out]; simp only; rw [hf2]
      simp only [fval]
      clear hf2
      go_wp2_with fail
      exact bodyPost_ret (v := .agg #[.int .i64 x.code, .int .i64 x.fn, .int .i64 x.node]) (by simp [results, Tryz.results5, go_sem, bq, z1]) rfl ⟨ret_flt fin.out, Onw.trans (below_set (below_set (below_set U3.onw (by omega) _) (by omega) _) (by omega) _) (Onw.alloc _ _)⟩
    | none =>
      have fin : Hid (specB u.toUD = thirdB u.toUD) := by show _ = _; rw [specB, HF.out]; simp only; rw [hf2]
      simp only [fval]
      clear hf2
      go_wp2_with fail
      have U4 := U3.go (Onw.alloc w2 (Obj.cells #[.int .i64 0, .int .i64 0, .int .i64 0] 27))
      refine (l3third_any u _ hn HS.out (fun f hf' => H6.out f hf') (by exact ha.onw U4.onw)).mono ?_
      rintro e w3 ⟨rfl, hb3⟩
      have U5 := U4.go hb3
      clear bx bq bf z0 z1 U3
      have bq := U5.b1.cell
      have bf := U5.b1.free
      cases hf3 : thirdB u.toUD with
      | some x =>
        simp only [fval]
        have F3 : Hid _ := hf3
        clear hf3
        go_wp2_with fail
        exact bodyPost_ret (v := .agg #[.int .i64 x.code, .int .i64 x.fn, .int .i64 x.node]) (by simp [results, Tryz.results5, go_sem, bq]) rfl ⟨ret_flt (by rw [fin.out, F3.out]), below_set (below_set (below_set U5.onw (by omega) _) (by omega) _) (by omega) _⟩
      | none =>
        simp only [fval]
        have F3 : Hid _ := hf3
        clear hf3
        go_wp2_with fail
        exact bodyPost_ret (v := .agg #[.int .i64 0, .int .i64 0, .int .i64 0]) (by simp [results, Tryz.results5, go_sem, bq]) rfl ⟨ret_none (by rw [fin.out, F3.out]), below_set (below_set (below_set U5.onw (by omega) _) (by omega) _) (by omega) _⟩
end Go.Proofs.YtnokgdgikdgaeaaGreat
