import Derived.Test.YtjebijnndfkinaaGreatP30
import Derived.Test.YtjebijnndfkinaaGreatP03
namespace Go.Proofs.YtjebijnndfkinaaGreat
open Go.RowKit
attribute [local go_sem] run_store_float

theorem ret_flt {o : Option Flt} {x : Flt} (h : o = some x) : Ending.returned (.agg #[.int .i64 x.code, .int .i64 x.fn, .int .i64 x.node]) = .returned (fval o) := by rw [h]; rfl
theorem ret_none {o : Option Flt} (h : o = none) : Ending.returned (.agg #[.int .i64 0, .int .i64 0, .int .i64 0]) = .returned (fval o) := by rw [h]; rfl

/-- The unit's box and the result's, of a function of a unit. -/
structure UBox (w wr : World) (fa : Option Addr) (nf fc : Nat) : Prop where
  onw : Onw w wr
  b0 : Blk wr w.heap.size 31 #[.slice fa nf fc]
  b1 : Blk wr (w.heap.size + 1) 27 #[.int .i64 0, .int .i64 0, .int .i64 0]
theorem UBox.go {w wr w' : World} {fa : Option Addr} {nf fc : Nat} (U : UBox w wr fa nf fc) (h : Onw wr w') : UBox w w' fa nf fc := ⟨U.onw.trans h, U.b0.onw h, U.b1.onw h⟩
theorem UBox.new (w : World) (fa : Option Addr) (nf fc : Nat) : UBox w ((w.alloc (Obj.cells #[.slice fa nf fc] 31)).alloc (Obj.cells #[.int .i64 0, .int .i64 0, .int .i64 0] 27)) fa nf fc :=
  ⟨(Onw.alloc _ _).trans (Onw.alloc _ _), (Blk.new _ _ _).onw (Onw.alloc _ _), by have := Blk.new (w.alloc (Obj.cells #[.slice fa nf fc] 31)) 27 #[.int .i64 0, .int .i64 0, .int .i64 0]; simpa using this⟩

set_option maxRecDepth 100000 in
set_option maxHeartbeats 2000000 in
theorem l3first_any (u : UM) (w : World) (hn : u.nf ≤ 1048576) (hs : ∀ i, i < u.nf → (u.fm i).Small) (hsum : sumTo (fun i => (u.fm i).nn) u.nf ≤ 1048576) (ha : u.At w) :
    Calls Tryz.prog 11 #[.agg #[.slice u.fa u.nf u.fc]] w fun e w' => e = .returned (fval (firstB u.toUD)) ∧ Onw w w' := by
  obtain ⟨nf, fm, fa, fc⟩ := u
  simp only at *
  have HS : Hid _ := hs
  have hmono : ∀ k, k ≤ nf → sumTo (fun i => (fm i).nn) k ≤ sumTo (fun i => (fm i).nn) nf := fun k hk => sumTo_mono _ k nf hk
  have HM : Hid _ := hmono
  clear hs hmono
  go_enter Tryz.func11, Tryz.ntmps11
  go_wp2_with fail
  go_loopw [3, 12] (fun t i wr => ∃ k : Nat, k ≤ nf ∧ i = .int .i64 k ∧ t = .int .i64 (sumTo (fun i => (fm i).nn) k : Nat) ∧ UBox w wr fa nf fc) (fun _ i _ => nf - (intOf i).toNat)
  case atStart => exact ⟨0, Nat.zero_le _, rfl, rfl, UBox.new _ _ _ _⟩
  case round =>
    obtain ⟨k, hk, rfl, rfl, U⟩ := hrel
    by_cases hlt : k < nf
    · obtain ⟨b, off, rfl, hc⟩ := FnsAt.onw U.onw ha |>.1 (by show 0 < nf; omega)
      obtain ⟨c0, c1, c2, c3, c4, c5, c6⟩ := hc k hlt
      have m1 := HM.out (k + 1) (by omega)
      have st : Hid (sumTo (fun i => (fm i).nn) (k + 1) = sumTo (fun i => (fm i).nn) k + (fm k).nn) := rfl
      rw [st.out] at m1
      clear hc
      go_wp2_with fail
      go_roundw
      case rel => exact ⟨k + 1, by omega, by go_num, by rw [st.out]; go_num, U.go (Onw.alloc _ _)⟩
      case measure => simp [intOf]; omega
    · have : k = nf := by omega
      subst this
      have bx := U.b0.cell
      have bq := U.b1.cell
      have bf := U.b1.free
      have z1 := U.b1.lt
      by_cases hsz : sizeBad (UM.toUD ⟨k, fm, fa, fc⟩) = true
      · have cs : ((k : Int) == 0) = true ∨ (((k : Int) == 0) = false ∧ 300 < k) ∨ (((k : Int) == 0) = false ∧ k ≤ 300 ∧ (3000 : Int) < ((sumTo (fun i => (fm i).nn) k : Nat) : Int)) := by
          have q : ((k : Int) == 0 || decide ((300 : Int) < k) || decide (3000 < ((sumTo (fun i => (fm i).nn) k : Nat) : Int))) = true := hsz
          cases e0 : ((k : Int) == 0)
          · rw [e0] at q
            simp only [Bool.false_or, Bool.or_eq_true, decide_eq_true_eq] at q
            by_cases h3 : 300 < k
            · exact .inr (.inl ⟨rfl, h3⟩)
            · exact .inr (.inr ⟨rfl, by omega, by omega⟩)
          · exact .inl rfl
        have fin : Hid (firstB (UM.toUD ⟨k, fm, fa, fc⟩) = some ⟨1, 0, 0⟩) := by
          show _ = _
          rw [firstB, hsz]; rfl
        clear hsz hlt
        rcases cs with e0 | ⟨e0, h3⟩ | ⟨e0, h3, h4⟩
        all_goals
          go_wp2_with fail
          refine (l3fault_any _ _ _ _).mono ?_
          rintro e w1 ⟨rfl, hb1⟩
          have U1 := U.go hb1
          clear bx bq bf z1
          have bq := U1.b1.cell
          have bf := U1.b1.free
          go_wp2_with fail
          exact bodyPost_ret (v := .agg #[.int .i64 1, .int .i64 0, .int .i64 0]) (by simp [results, Tryz.results11, go_sem, bq]) rfl ⟨ret_flt fin.out, below_set (below_set (below_set U1.onw (by omega) _) (by omega) _) (by omega) _⟩
      · have q : ((k : Int) == 0 || decide ((300 : Int) < k) || decide (3000 < ((sumTo (fun i => (fm i).nn) k : Nat) : Int))) = false := Bool.eq_false_iff.2 hsz
        have hsz' : sizeBad (UM.toUD ⟨k, fm, fa, fc⟩) = false := q
        simp only [Bool.or_eq_false_iff] at q
        obtain ⟨⟨t1, t2⟩, t3⟩ := q
        have fin : Hid (firstB (UM.toUD ⟨k, fm, fa, fc⟩) = match fltOf 2 (headsBad (UM.toUD ⟨k, fm, fa, fc⟩)) with | some x => some x | none => fltOf 3 (shapesBad (UM.toUD ⟨k, fm, fa, fc⟩))) := by
          show _ = _
          rw [firstB, hsz']; rfl
        clear hsz hsz' hlt
        go_wp2_with fail
        clear bx bq bf z1
        go_loopw [40] (fun i wr => ∃ j : Nat, j ≤ k ∧ i = .int .i64 j ∧ UBox w wr fa k fc ∧ headsBad (UM.toUD ⟨k, fm, fa, fc⟩) = findF (fun f => if headB (fm f).toFD f then none else some 0) j (k - j)) (fun i _ => k - (intOf i).toNat)
        case atStart => exact ⟨0, Nat.zero_le _, rfl, U, rfl⟩
        case round =>
          clear U
          obtain ⟨j, hj, rfl, U, hr⟩ := hrel
          have HR : Hid _ := hr
          clear hr
          have bx := U.b0.cell
          by_cases hlt : j < k
          · have st : Hid (findF (fun f => if headB (fm f).toFD f then none else some 0) j (k - j) = match (if headB (fm j).toFD j then none else some 0) with | some n => some (j, n) | none => findF (fun f => if headB (fm f).toFD f then none else some 0) (j + 1) (k - (j + 1))) := by
              show _ = _
              rw [show k - j = (k - (j + 1)) + 1 from by omega]; rfl
            go_wp2_with fail
            refine (l3head_any ⟨k, fm, fa, fc⟩ j _ hlt hn (HS.out j hlt) (by exact FnsAt.onw U.onw ha)).mono ?_
            rintro e w1 ⟨rfl, hb1⟩
            have U1 := U.go hb1
            clear bx
            cases hx : headB (fm j).toFD j
            · go_wp2_with fail
              refine (l3fault_any _ _ _ _).mono ?_
              rintro e w2 ⟨rfl, hb2⟩
              have U2 := U1.go hb2
              have bq := U2.b1.cell
              have bf := U2.b1.free
              go_wp2_with fail
              exact bodyPost_ret (v := .agg #[.int .i64 2, .int .i64 j, .int .i64 0]) (by simp [results, Tryz.results11, go_sem, bq]) rfl ⟨ret_flt (x := ⟨2, j, 0⟩) (by rw [fin.out, HR.out, st.out, hx]; rfl), below_set (below_set (below_set U2.onw (by omega) _) (by omega) _) (by omega) _⟩
            · go_wp2_with fail
              go_roundw
              case rel => exact ⟨j + 1, by omega, by go_num, U1, by rw [HR.out, st.out, hx]; rfl⟩
              case measure => simp [intOf]; omega
          · have st : Hid (findF (fun f => if headB (fm f).toFD f then none else some 0) j (k - j) = none) := by
              show _ = _
              rw [show k - j = 0 from by omega]; rfl
            have fin2 : Hid (firstB (UM.toUD ⟨k, fm, fa, fc⟩) = fltOf 3 (shapesBad (UM.toUD ⟨k, fm, fa, fc⟩))) := by
              show _ = _
              rw [fin.out, HR.out, st.out]; rfl
            clear fin HR st
            go_wp2_with fail
            clear bx
            go_loopw [53] (fun i wr => ∃ f : Nat, f ≤ k ∧ i = .int .i64 f ∧ UBox w wr fa k fc ∧ shapesBad (UM.toUD ⟨k, fm, fa, fc⟩) = findF (fun f => findN (fun n => !shapeB (ndOf (fm f).nm) n) 0 (fm f).nn) f (k - f)) (fun i _ => k - (intOf i).toNat)
            case atStart => exact ⟨0, Nat.zero_le _, rfl, U, rfl⟩
            case round =>
              clear U hlt
              obtain ⟨f, hf, rfl, U, hr⟩ := hrel
              have HR : Hid _ := hr
              clear hr
              have bx := U.b0.cell
              by_cases hlt : f < k
              · obtain ⟨b, off, rfl, hc⟩ := FnsAt.onw U.onw ha |>.1 (by show 0 < k; omega)
                have c6 := (hc f hlt).c6
                obtain ⟨s1, s2, s3, s4⟩ := HS.out f hlt
                have HS4 : Hid _ := s4
                have st : Hid (findF (fun f => findN (fun n => !shapeB (ndOf (fm f).nm) n) 0 (fm f).nn) f (k - f) = match findN (fun n => !shapeB (ndOf (fm f).nm) n) 0 (fm f).nn with | some n => some (f, n) | none => findF (fun f => findN (fun n => !shapeB (ndOf (fm f).nm) n) 0 (fm f).nn) (f + 1) (k - (f + 1))) := by
                  show _ = _
                  rw [show k - f = (k - (f + 1)) + 1 from by omega]; rfl
                have aN := (ha.2 f hlt).2.2
                simp only at aN
                clear hc s4 s1 s2
                go_wp2_with fail
                clear bx c6
                go_loopw [63] (fun i wr => ∃ n : Nat, n ≤ (fm f).nn ∧ i = .int .i64 n ∧ UBox w wr (some ⟨b, off, none⟩) k fc ∧ findN (fun n => !shapeB (ndOf (fm f).nm) n) 0 (fm f).nn = findN (fun n => !shapeB (ndOf (fm f).nm) n) n ((fm f).nn - n)) (fun i _ => (fm f).nn - (intOf i).toNat)
                case atStart => exact ⟨0, Nat.zero_le _, rfl, U, rfl⟩
                case round =>
                  clear U
                  obtain ⟨n, hnn, rfl, U, hq⟩ := hrel
                  have HQ : Hid _ := hq
                  clear hq
                  have bx := U.b0.cell
                  by_cases hnt : n < (fm f).nn
                  · obtain ⟨b', off', he, hc⟩ := FnsAt.onw U.onw ha |>.1 (by show 0 < k; omega)
                    simp only [Option.some.injEq, Addr.mk.injEq, and_true] at he
                    obtain ⟨rfl, rfl⟩ := he
                    have c6 := (hc f hlt).c6
                    clear hc
                    have sn : Hid (findN (fun n => !shapeB (ndOf (fm f).nm) n) n ((fm f).nn - n) = if (!shapeB (ndOf (fm f).nm) n) = true then some n else findN (fun n => !shapeB (ndOf (fm f).nm) n) (n + 1) ((fm f).nn - (n + 1))) := by
                      show _ = _
                      rw [show (fm f).nn - n = ((fm f).nn - (n + 1)) + 1 from by omega]; rfl
                    go_wp2_with fail
                    refine (l3shape_any _ _ _ (fm f).nm n _ hnt s3 (HS4.out n hnt).2 (by exact aN.onw U.onw)).mono ?_
                    rintro e w1 ⟨rfl, hb1⟩
                    have U1 := U.go hb1
                    clear bx c6
                    cases hx : shapeB (ndOf (fm f).nm) n
                    · go_wp2_with fail
                      refine (l3fault_any _ _ _ _).mono ?_
                      rintro e w2 ⟨rfl, hb2⟩
                      have U2 := U1.go hb2
                      have bq := U2.b1.cell
                      have bf := U2.b1.free
                      go_wp2_with fail
                      exact bodyPost_ret (v := .agg #[.int .i64 3, .int .i64 f, .int .i64 n]) (by simp [results, Tryz.results11, go_sem, bq]) rfl ⟨ret_flt (x := ⟨3, f, n⟩) (by rw [fin2.out, HR.out, st.out, HQ.out, sn.out, hx]; rfl), below_set (below_set (below_set U2.onw (by omega) _) (by omega) _) (by omega) _⟩
                    · go_wp2_with fail
                      go_roundw
                      case rel => exact ⟨n + 1, by omega, by go_num, U1, by rw [HQ.out, sn.out, hx]; rfl⟩
                      case measure => simp [intOf]; omega
                  · have sn : Hid (findN (fun n => !shapeB (ndOf (fm f).nm) n) n ((fm f).nn - n) = none) := by
                      show _ = _
                      rw [show (fm f).nn - n = 0 from by omega]; rfl
                    go_wp2_with fail
                    go_roundw
                    case rel => exact ⟨f + 1, by omega, by go_num, U, by rw [HR.out, st.out, HQ.out, sn.out]⟩
                    case measure => simp [intOf]; omega
              · have st : Hid (findF (fun f => findN (fun n => !shapeB (ndOf (fm f).nm) n) 0 (fm f).nn) f (k - f) = none) := by
                  show _ = _
                  rw [show k - f = 0 from by omega]; rfl
                have bq := U.b1.cell
                have bf := U.b1.free
                go_wp2_with fail
                exact bodyPost_ret (v := .agg #[.int .i64 0, .int .i64 0, .int .i64 0]) (by simp [results, Tryz.results11, go_sem, bq]) rfl ⟨ret_none (by rw [fin2.out, HR.out, st.out]; rfl), below_set (below_set (below_set U.onw (by omega) _) (by omega) _) (by omega) _⟩
end Go.Proofs.YtjebijnndfkinaaGreat

namespace Go.Proofs.YtjebijnndfkinaaGreat
open Go.RowKit
attribute [local go_sem] run_store_float

set_option maxRecDepth 100000 in
set_option maxHeartbeats 4000000 in
theorem l3second_any (u : UM) (w : World) (hn : u.nf ≤ 1048576) (hs : ∀ i, i < u.nf → (u.fm i).Small) (hok : ∀ f, f < u.nf → Ok3 (u.fm f).toFD) (ha : u.At w) :
    Calls Tryz.prog 12 #[.agg #[.slice u.fa u.nf u.fc]] w fun e w' => e = .returned (fval (secondB u.toUD)) ∧ Onw w w' := by
  obtain ⟨k, fm, fa, fc⟩ := u
  simp only at *
  have HS : Hid _ := hs
  have HOK : Hid _ := hok
  clear hs hok
  have fin : Hid (secondB (UM.toUD ⟨k, fm, fa, fc⟩) = match fltOf 4 (findF (fun f => findN (bad4 (fm f).toFD) 0 (fm f).nn) 0 k) with | some x => some x | none => fltOf 5 (findF (fun f => findN (bad5 (fm f).toFD) 0 (fm f).nn) 0 k)) := rfl
  go_enter Tryz.func12, Tryz.ntmps12
  go_wp2_with fail
  go_loopw [14] (fun i wr => ∃ f : Nat, f ≤ k ∧ i = .int .i64 f ∧ UBox w wr fa k fc ∧ findF (fun f => findN (bad4 (fm f).toFD) 0 (fm f).nn) 0 k = findF (fun f => findN (bad4 (fm f).toFD) 0 (fm f).nn) f (k - f)) (fun i _ => k - (intOf i).toNat)
  case atStart => exact ⟨0, Nat.zero_le _, rfl, UBox.new _ _ _ _, rfl⟩
  case round =>
    obtain ⟨f, hf, rfl, U, hr⟩ := hrel
    have HR : Hid _ := hr
    clear hr
    have bx := U.b0.cell
    by_cases hlt : f < k
    · obtain ⟨b, off, rfl, hc⟩ := FnsAt.onw U.onw ha |>.1 (by show 0 < k; omega)
      have c6 := (hc f hlt).c6
      obtain ⟨s1, s2, s3, s4⟩ := HS.out f hlt
      have HS4 : Hid _ := s4
      obtain ⟨o1, o2⟩ := HOK.out f hlt
      have st : Hid (findF (fun f => findN (bad4 (fm f).toFD) 0 (fm f).nn) f (k - f) = match findN (bad4 (fm f).toFD) 0 (fm f).nn with | some n => some (f, n) | none => findF (fun f => findN (bad4 (fm f).toFD) 0 (fm f).nn) (f + 1) (k - (f + 1))) := by
        show _ = _
        rw [show k - f = (k - (f + 1)) + 1 from by omega]; rfl
      have aN := (ha.2 f hlt).2.2
      simp only at aN
      obtain ⟨NA, hNA⟩ : ∃ NA, (fm f).na = NA := ⟨_, rfl⟩
      rw [hNA] at c6 aN
      clear hNA
      have O1 : Hid _ := o1
      have O2 : Hid _ := o2
      clear hc s4 s1 s2 o1 o2
      go_wp2_with fail
      refine (l3grow_any _ (fm f).nn _ (fm f).nm _ O1.out s3 (fun i hi => (HS4.out i hi).2) O2.out (by exact aN.onw U.onw)).mono ?_
      rintro e w1 ⟨pa, da, rfl, hb1, hpar, hdep, hfp, _⟩
      have U1 := U.go hb1
      clear bx c6 U
      go_wp2_with fail
      go_loopw [27] (fun i wr => ∃ n : Nat, n ≤ (fm f).nn ∧ i = .int .i64 n ∧ Onw (w1.alloc (Obj.cells #[.slice pa (fm f).nn (fm f).nn, .slice da (fm f).nn (fm f).nn] 67)) wr ∧ findN (bad4 (fm f).toFD) 0 (fm f).nn = findN (bad4 (fm f).toFD) n ((fm f).nn - n)) (fun i _ => (fm f).nn - (intOf i).toNat)
      case atStart => exact ⟨0, Nat.zero_le _, rfl, Onw.refl _, rfl⟩
      case round =>
        obtain ⟨n, hnn, rfl, ob, hq⟩ := hrel
        have HQ : Hid _ := hq
        clear hq
        have ob1 := (Onw.alloc w1 _).trans ob
        have U2 := U1.go ob1
        by_cases hnt : n < (fm f).nn
        · have tb := ((Blk.new w1 67 #[.slice pa (fm f).nn (fm f).nn, .slice da (fm f).nn (fm f).nn]).onw ob).cell
          obtain ⟨pb, po, rfl, hpc⟩ := hpar.onw ob1 (by omega)
          have hpn := hpc n hnt
          obtain ⟨nb, no, rfl, hnc⟩ := (aN.onw U2.onw).1 (by omega)
          have c0 := (hnc n hnt).c0
          clear hpc hnc
          have sn : Hid (findN (bad4 (fm f).toFD) n ((fm f).nn - n) = if bad4 (fm f).toFD n = true then some n else findN (bad4 (fm f).toFD) (n + 1) ((fm f).nn - (n + 1))) := by
            show _ = _
            rw [show (fm f).nn - n = ((fm f).nn - (n + 1)) + 1 from by omega]; rfl
          have cs : (bad4 (fm f).toFD n = true ∧ (((n : Int) == ((fm f).nn : Int) - 1) = true ∧ (parE (ndOf (fm f).nm) (fm f).nn n != -1) = true ∨ ((n : Int) == ((fm f).nn : Int) - 1) = true ∧ (parE (ndOf (fm f).nm) (fm f).nn n != -1) = false ∧ (((fm f).nm n).kind != 1) = true ∨ ((n : Int) == ((fm f).nn : Int) - 1) = false ∧ parE (ndOf (fm f).nm) (fm f).nn n < 0)) ∨
              (bad4 (fm f).toFD n = false ∧ (((n : Int) == ((fm f).nn : Int) - 1) = true ∧ (parE (ndOf (fm f).nm) (fm f).nn n != -1) = false ∧ (((fm f).nm n).kind != 1) = false ∨ ((n : Int) == ((fm f).nn : Int) - 1) = false ∧ 0 ≤ parE (ndOf (fm f).nm) (fm f).nn n)) := by
            have e : bad4 (fm f).toFD n = if (n : Int) == ((fm f).nn : Int) - 1 then (parE (ndOf (fm f).nm) (fm f).nn n != -1) || (((fm f).nm n).kind != 1) else decide (parE (ndOf (fm f).nm) (fm f).nn n < 0) := rfl
            rw [e]
            cases q1 : ((n : Int) == ((fm f).nn : Int) - 1)
            · by_cases q2 : parE (ndOf (fm f).nm) (fm f).nn n < 0
              · simp [q2]
              · simp [q2]; omega
            · cases q2 : (parE (ndOf (fm f).nm) (fm f).nn n != -1) <;> cases q3 : (((fm f).nm n).kind != 1) <;> simp
          rcases cs with ⟨hbad, cs⟩ | ⟨hgood, cs⟩
          · rcases cs with ⟨e1, e2⟩ | ⟨e1, e2, e3⟩ | ⟨e1, e2⟩
            all_goals
              go_wp2_with fail
              refine (l3fault_any _ _ _ _).mono ?_
              rintro e w2 ⟨rfl, hb2⟩
              have U3 := U2.go hb2
              have bq := U3.b1.cell
              have bf := U3.b1.free
              clear tb hpn c0
              go_wp2_with fail
              exact bodyPost_ret (v := .agg #[.int .i64 4, .int .i64 f, .int .i64 n]) (by simp [results, Tryz.results12, go_sem, bq]) rfl ⟨ret_flt (x := ⟨4, f, n⟩) (by rw [fin.out, HR.out, st.out, HQ.out, sn.out, hbad]; rfl), below_set (below_set (below_set U3.onw (by omega) _) (by omega) _) (by omega) _⟩
          · rcases cs with ⟨e1, e2, e3⟩ | ⟨e1, e2⟩
            all_goals
              go_wp2_with fail
              go_roundw
              case rel => exact ⟨n + 1, by omega, by go_num, ob, by rw [HQ.out, sn.out, hgood]; rfl⟩
              case measure => simp [intOf]; omega
        · have sn : Hid (findN (bad4 (fm f).toFD) n ((fm f).nn - n) = none) := by
            show _ = _
            rw [show (fm f).nn - n = 0 from by omega]; rfl
          go_wp2_with fail
          go_roundw
          case rel => exact ⟨f + 1, by omega, by go_num, U2, by rw [HR.out, st.out, HQ.out, sn.out]⟩
          case measure => simp [intOf]; omega
    · have st : Hid (findF (fun f => findN (bad4 (fm f).toFD) 0 (fm f).nn) f (k - f) = none) := by
        show _ = _
        rw [show k - f = 0 from by omega]; rfl
      have fin2 : Hid (secondB (UM.toUD ⟨k, fm, fa, fc⟩) = fltOf 5 (findF (fun f => findN (bad5 (fm f).toFD) 0 (fm f).nn) 0 k)) := by
        show _ = _
        rw [fin.out, HR.out, st.out]; rfl
      clear fin HR st
      go_wp2_with fail
      clear bx hlt hf
      go_loopw [72] (fun i wr => ∃ f : Nat, f ≤ k ∧ i = .int .i64 f ∧ UBox w wr fa k fc ∧ findF (fun f => findN (bad5 (fm f).toFD) 0 (fm f).nn) 0 k = findF (fun f => findN (bad5 (fm f).toFD) 0 (fm f).nn) f (k - f)) (fun i _ => k - (intOf i).toNat)
      case atStart => exact ⟨0, Nat.zero_le _, rfl, U, rfl⟩
      case round =>
        clear U
        obtain ⟨f, hf, rfl, U, hr⟩ := hrel
        have HR : Hid _ := hr
        clear hr
        have bx := U.b0.cell
        by_cases hlt : f < k
        · obtain ⟨b, off, rfl, hc⟩ := FnsAt.onw U.onw ha |>.1 (by show 0 < k; omega)
          have HC : Hid _ := hc f hlt
          have c6 := (hc f hlt).c6
          obtain ⟨s1, s2, s3, s4⟩ := HS.out f hlt
          have HS4 : Hid _ := s4
          obtain ⟨o1, o2⟩ := HOK.out f hlt
          have st : Hid (findF (fun f => findN (bad5 (fm f).toFD) 0 (fm f).nn) f (k - f) = match findN (bad5 (fm f).toFD) 0 (fm f).nn with | some n => some (f, n) | none => findF (fun f => findN (bad5 (fm f).toFD) 0 (fm f).nn) (f + 1) (k - (f + 1))) := by
            show _ = _
            rw [show k - f = (k - (f + 1)) + 1 from by omega]; rfl
          have aN := (ha.2 f hlt).2.2
          simp only at aN
          have O1 : Hid _ := o1
          have O2 : Hid _ := o2
          clear hc s4 s1 s2 o1 o2
          go_wp2_with fail
          refine (l3grow_any _ (fm f).nn _ (fm f).nm _ O1.out s3 (fun i hi => (HS4.out i hi).2) O2.out (by exact aN.onw U.onw)).mono ?_
          rintro e w1 ⟨pa, da, rfl, hb1, hpar, hdep, hfp, _⟩
          have U1 := U.go hb1
          have c6' := cell_onw hb1 c6
          have bx' := U1.b0.cell
          have z0 := U1.b0.lt
          have z6 := cell_lt c6'
          clear bx c6 U
          go_wp2_with fail
          clear bx' c6'
          go_loopw [89] (fun i wr => ∃ n : Nat, n ≤ (fm f).nn ∧ i = .int .i64 n ∧ Onw (w1.alloc (Obj.cells #[.slice pa (fm f).nn (fm f).nn, .slice da (fm f).nn (fm f).nn] 67)) wr ∧ findN (bad5 (fm f).toFD) 0 (fm f).nn = findN (bad5 (fm f).toFD) n ((fm f).nn - n)) (fun i _ => (fm f).nn - (intOf i).toNat)
          case atStart => exact ⟨0, Nat.zero_le _, rfl, Onw.refl _, rfl⟩
          case round =>
            obtain ⟨n, hnn, rfl, ob, hq⟩ := hrel
            have HQ : Hid _ := hq
            clear hq
            have ob1 := (Onw.alloc w1 _).trans ob
            have U2 := U1.go ob1
            by_cases hnt : n < (fm f).nn
            · have tb := ((Blk.new w1 67 #[.slice pa (fm f).nn (fm f).nn, .slice da (fm f).nn (fm f).nn]).onw ob).cell
              obtain ⟨pb, po, rfl, hpc⟩ := hdep.onw ob1 (by omega)
              have hpn := hpc n hnt
              clear hpc
              have sn : Hid (findN (bad5 (fm f).toFD) n ((fm f).nn - n) = if bad5 (fm f).toFD n = true then some n else findN (bad5 (fm f).toFD) (n + 1) ((fm f).nn - (n + 1))) := by
                show _ = _
                rw [show (fm f).nn - n = ((fm f).nn - (n + 1)) + 1 from by omega]; rfl
              have e5 : Hid (bad5 (fm f).toFD n = decide (100 < depE (ndOf (fm f).nm) (fm f).nn n)) := rfl
              by_cases hd : 100 < depE (ndOf (fm f).nm) (fm f).nn n
              · go_wp2_with fail
                refine (l3fault_any _ _ _ _).mono ?_
                rintro e w2 ⟨rfl, hb2⟩
                have U3 := U2.go hb2
                have bq := U3.b1.cell
                have bf := U3.b1.free
                clear tb hpn
                go_wp2_with fail
                exact bodyPost_ret (v := .agg #[.int .i64 5, .int .i64 f, .int .i64 n]) (by simp [results, Tryz.results12, go_sem, bq]) rfl ⟨ret_flt (x := ⟨5, f, n⟩) (by rw [fin2.out, HR.out, st.out, HQ.out, sn.out, e5.out, decide_eq_true hd]; rfl), below_set (below_set (below_set U3.onw (by omega) _) (by omega) _) (by omega) _⟩
              · go_wp2_with fail
                go_roundw
                case rel => exact ⟨n + 1, by omega, by go_num, ob, by rw [HQ.out, sn.out, e5.out, decide_eq_false (by omega)]; rfl⟩
                case measure => simp [intOf]; omega
            · have sn : Hid (findN (bad5 (fm f).toFD) n ((fm f).nn - n) = none) := by
                show _ = _
                rw [show (fm f).nn - n = 0 from by omega]; rfl
              go_wp2_with fail
              go_roundw
              case rel => exact ⟨f + 1, by omega, by go_num, U2, by rw [HR.out, st.out, HQ.out, sn.out]⟩
              case measure => simp [intOf]; omega
        · have st : Hid (findF (fun f => findN (bad5 (fm f).toFD) 0 (fm f).nn) f (k - f) = none) := by
            show _ = _
            rw [show k - f = 0 from by omega]; rfl
          have bq := U.b1.cell
          have bf := U.b1.free
          go_wp2_with fail
          exact bodyPost_ret (v := .agg #[.int .i64 0, .int .i64 0, .int .i64 0]) (by simp [results, Tryz.results12, go_sem, bq]) rfl ⟨ret_none (by rw [fin2.out, HR.out, st.out]; rfl), below_set (below_set (below_set U.onw (by omega) _) (by omega) _) (by omega) _⟩
end Go.Proofs.YtjebijnndfkinaaGreat
