import Derived.Test.YtnokgdgikdgaeaaGreatP19
import Derived.Test.YtnokgdgikdgaeaaGreatP02
import Derived.Test.YtnokgdgikdgaeaaGreatP01
import Derived.Deep.QuietTactic
import Derived.BigQuiet
import Derived.BigRegion
import Derived.Deep.RegionWith
import Derived.Deep.RegionHeld3
import Derived.Deep.DeepCutAuto
namespace Go.Proofs.YtnokgdgikdgaeaaGreat
open Go.RowKit
attribute [local go_sem] run_store_float

set_option maxRecDepth 100000 in
set_option maxHeartbeats 4000000 in
theorem l3second_any (u : UM) (w : World) (hn : u.nf ≤ 1048576) (hs : ∀ i, i < u.nf → (u.fm i).Small) (hok : ∀ f, f < u.nf → Ok3 (u.fm f).toFD) (ha : u.At w) :
    Calls Tryz.prog 12 #[.agg #[.slice u.fa u.nf u.fc]] w fun e w' => e = .returned (fval (secondB u.toUD)) ∧ Onw w w' := by
  obtain ⟨k, fm, fa, fc⟩ := u
  simp only at *
  have HS : Hid _ := hs
  have HOK : Hid _ := hok
  clear hs hok
  have fin : Hid (secondB (UM.toUD ⟨k, fm, fa, fc⟩) = match fltOf 4 (findF (fun f => findN (bad4 (fm f).toFD) 0 (fm f).nn) 0 k) with | some x => some x | none => fltOf 5 (findF (fun f => findN (bad5 (fm f).toFD) 0 (fm f).nn) 0 k)) := rfl
  go_enter Tryz.func12, Tryz.ntmps12
  go_wp2_with fail
  go_loopw [14] (fun i wr => ∃ f : Nat, f ≤ k ∧ i = .int .i64 f ∧ UBox w wr fa k fc ∧ findF (fun f => findN (bad4 (fm f).toFD) 0 (fm f).nn) 0 k = findF (fun f => findN (bad4 (fm f).toFD) 0 (fm f).nn) f (k - f)) (fun i _ => k - (intOf i).toNat)
  case atStart => exact ⟨0, Nat.zero_le _, rfl, UBox.new _ _ _ _, rfl⟩
  case round =>
    obtain ⟨f, hf, rfl, U, hr⟩ := hrel
    have HR : Hid _ := hr
    clear hr
    have bx := U.b0.cell
    by_cases hlt : f < k
    · obtain ⟨b, off, rfl, hc⟩ := FnsAt.onw U.onw ha |>.1 (by show 0 < k; omega)
      have c6 := (hc f hlt).c6
      obtain ⟨s1, s2, s3, s4⟩ := HS.out f hlt
      have HS4 : Hid _ := s4
      obtain ⟨o1, o2⟩ := HOK.out f hlt
      have st : Hid (findF (fun f => findN (bad4 (fm f).toFD) 0 (fm f).nn) f (k - f) = match findN (bad4 (fm f).toFD) 0 (fm f).nn with | some n => some (f, n) | none => findF (fun f => findN (bad4 (fm f).toFD) 0 (fm f).nn) (f + 1) (k - (f + 1))) := by
        show _ = _
        rw [show k - f = (k - (f + 1)) + 1 from by omega]; rfl
      have aN := (ha.2 f hlt).2.2
      simp only at aN
      obtain ⟨NA, hNA⟩ : ∃ NA, (fm f).na = NA := ⟨_, rfl⟩
      rw [hNA] at c6 aN
      clear hNA
      have O1 : Hid _ := o1
      have O2 : Hid _ := o2
      clear hc s4 s1 s2 o1 o2
      go_wp2_with fail
      refine (l3grow_any _ (fm f).nn _ (fm f).nm _ O1.out s3 (fun i hi => (HS4.out i hi).2) O2.out (by exact aN.onw U.onw)).mono ?_
      rintro e w1 ⟨pa, da, rfl, hb1, hpar, hdep, hfp, _⟩
      have U1 := U.go hb1
      clear bx c6 U
      go_wp2_with fail
      go_loopw [27] (fun i wr => ∃ n : Nat, n ≤ (fm f).nn ∧ i = .int .i64 n ∧ Onw (w1.alloc (Obj.cells #[.slice pa (fm f).nn (fm f).nn, .slice da (fm f).nn (fm f).nn] 67)) wr ∧ findN (bad4 (fm f).toFD) 0 (fm f).nn = findN (bad4 (fm f).toFD) n ((fm f).nn - n)) (fun i _ => (fm f).nn - (intOf i).toNat)
      case atStart => exact ⟨0, Nat.zero_le _, rfl, Onw.refl _, rfl⟩
      case round =>
        obtain ⟨n, hnn, rfl, ob, hq⟩ := hrel
        have HQ : Hid _ := hq
        clear hq
        have ob1 := (Onw.alloc w1 _).trans ob
        have U2 := U1.go ob1
        by_cases hnt : n < (fm f).nn
        · have tb := ((Blk.new w1 67 #[.slice pa (fm f).nn (fm f).nn, .slice da (fm f).nn (fm f).nn]).onw ob).cell
          obtain ⟨pb, po, rfl, hpc⟩ := hpar.onw ob1 (by omega)
          have hpn := hpc n hnt
          obtain ⟨nb, no, rfl, hnc⟩ := (aN.onw U2.onw).1 (by omega)
          have c0 := (hnc n hnt).c0
          clear hpc hnc
          have sn : Hid (findN (bad4 (fm f).toFD) n ((fm f).nn - n) = if bad4 (fm f).toFD n = true then some n else findN (bad4 (fm f).toFD) (n + 1) ((fm f).nn - (n + 1))) := by
            show _ = _
            rw [show (fm f).nn - n = ((fm f).nn - (n + 1)) + 1 from by omega]; rfl
          have cs : (bad4 (fm f).toFD n = true ∧ (((n : Int) == ((fm f).nn : Int) - 1) = true ∧ (parE (ndOf (fm f).nm) (fm f).nn n != -1) = true ∨ ((n : Int) == ((fm f).nn : Int) - 1) = true ∧ (parE (ndOf (fm f).nm) (fm f).nn n != -1) = false ∧ (((fm f).nm n).kind != 1) = true ∨ ((n : Int) == ((fm f).nn : Int) - 1) = false ∧ parE (ndOf (fm f).nm) (fm f).nn n < 0)) ∨
              (bad4 (fm f).toFD n = false ∧ (((n : Int) == ((fm f).nn : Int) - 1) = true ∧ (parE (ndOf (fm f).nm) (fm f).nn n != -1) = false ∧ (((fm f).nm n).kind != 1) = false ∨ ((n : Int) == ((fm f).nn : Int) - 1) = false ∧ 0 ≤ parE (ndOf (fm f).nm) (fm f).nn n)) := by
            have e : bad4 (fm f).toFD n = if (n : Int) == ((fm f).nn : Int) - 1 then (parE (ndOf (fm f).nm) (fm f).nn n != -1) || (((fm f).nm n).kind != 1) else decide (parE (ndOf (fm f).nm) (fm f).nn n < 0) := rfl
            rw [e]
            cases q1 : ((n : Int) == ((fm f).nn : Int) - 1)
            · by_cases q2 : parE (ndOf (fm f).nm) (fm f).nn n < 0
              · simp [q2]
              · simp [q2]; omega
            · cases q2 : (parE (ndOf (fm f).nm) (fm f).nn n != -1) <;> cases q3 : (((fm f).nm n).kind != 1) <;> simp
          rcases cs with ⟨hbad, cs⟩ | ⟨hgood, cs⟩
          · rcases cs with ⟨e1, e2⟩ | ⟨e1, e2, e3⟩ | ⟨e1, e2⟩
            all_goals
              go_wp2_with fail
              refine (l3fault_any _ _ _ _).mono ?_
              rintro e w2 ⟨rfl, hb2⟩
              have U3 := U2.go hb2
              have bq := U3.b1.cell
              have bf := U3.b1.free
              clear tb hpn c0
              go_wp2_with fail
              exact bodyPost_ret (v := .agg #[.int .i64 4, .int .i64 f, .int .i64 n]) (by simp [results, Tryz.results12, go_sem, bq]) rfl ⟨ret_flt (x := ⟨4, f, n⟩) (by rw [fin.out, HR.out, st.out, HQ.out, sn.out, hbad]; rfl), below_set (below_set (below_set U3.onw (by omega) _) (by omega) _) (by omega) _⟩
          · rcases cs with ⟨e1, e2, e3⟩ | ⟨e1, e2⟩
            all_goals
              go_wp2_with fail
              go_roundw
              case rel => exact ⟨n + 1, by omega, by go_num, ob, by rw [HQ.out, sn.out, hgood]; rfl⟩
              case measure => simp [intOf]; omega
        · have sn : Hid (findN (bad4 (fm f).toFD) n ((fm f).nn - n) = none) := by
            show _ = _
            rw [show (fm f).nn - n = 0 from by omega]; rfl
          go_wp2_with fail
          go_roundw
          case rel => exact ⟨f + 1, by omega, by go_num, U2, by rw [HR.out, st.out, HQ.out, sn.out]⟩
          case measure => simp [intOf]; omega
    · have st : Hid (findF (fun f => findN (bad4 (fm f).toFD) 0 (fm f).nn) f (k - f) = none) := by
        show _ = _
        rw [show k - f = 0 from by omega]; rfl
      have fin2 : Hid (secondB (UM.toUD ⟨k, fm, fa, fc⟩) = fltOf 5 (findF (fun f => findN (bad5 (fm f).toFD) 0 (fm f).nn) 0 k)) := by
        show _ = _
        rw [fin.out, HR.out, st.out]; rfl
      clear fin HR st
      go_wp2_with fail
      clear bx hlt hf
      go_loopw [72] (fun i wr => ∃ f : Nat, f ≤ k ∧ i = .int .i64 f ∧ UBox w wr fa k fc ∧ findF (fun f => findN (bad5 (fm f).toFD) 0 (fm f).nn) 0 k = findF (fun f => findN (bad5 (fm f).toFD) 0 (fm f).nn) f (k - f)) (fun i _ => k - (intOf i).toNat)
      case atStart => exact ⟨0, Nat.zero_le _, rfl, U, rfl⟩
      case round =>
        clear U
        obtain ⟨f, hf, rfl, U, hr⟩ := hrel
        have HR : Hid _ := hr
        clear hr
        have bx := U.b0.cell
        by_cases hlt : f < k
        · obtain ⟨b, off, rfl, hc⟩ := FnsAt.onw U.onw ha |>.1 (by show 0 < k; omega)
          have HC : Hid _ := hc f hlt
          have c6 := (hc f hlt).c6
          obtain ⟨s1, s2, s3, s4⟩ := HS.out f hlt
          have HS4 : Hid _ := s4
          obtain ⟨o1, o2⟩ := HOK.out f hlt
          have st : Hid (findF (fun f => findN (bad5 (fm f).toFD) 0 (fm f).nn) f (k - f) = match findN (bad5 (fm f).toFD) 0 (fm f).nn with | some n => some (f, n) | none => findF (fun f => findN (bad5 (fm f).toFD) 0 (fm f).nn) (f + 1) (k - (f + 1))) := by
            show _ = _
            rw [show k - f = (k - (f + 1)) + 1 from by omega]; rfl
          have aN := (ha.2 f hlt).2.2
          simp only at aN
          have O1 : Hid _ := o1
          have O2 : Hid _ := o2
          clear hc s4 s1 s2 o1 o2
          go_wp2_with fail
          refine (l3grow_any _ (fm f).nn _ (fm f).nm _ O1.out s3 (fun i hi => (HS4.out i hi).2) O2.out (by exact aN.onw U.onw)).mono ?_
          rintro e w1 ⟨pa, da, rfl, hb1, hpar, hdep, hfp, _⟩
          have U1 := U.go hb1
          have c6' := cell_onw hb1 c6
          have bx' := U1.b0.cell
          have z0 := U1.b0.lt
          have z6 := cell_lt c6'
          clear bx c6 U
          go_wp2_with fail
          clear bx' c6'
          go_loopw [89] (fun i wr => ∃ n : Nat, n ≤ (fm f).nn ∧ i = .int .i64 n ∧ Onw (w1.alloc (Obj.cells #[.slice pa (fm f).nn (fm f).nn, .slice da (fm f).nn (fm f).nn] 67)) wr ∧ findN (bad5 (fm f).toFD) 0 (fm f).nn = findN (bad5 (fm f).toFD) n ((fm f).nn - n)) (fun i _ => (fm f).nn - (intOf i).toNat)
          case atStart => exact ⟨0, Nat.zero_le _, rfl, Onw.refl _, rfl⟩
          case round =>
            obtain ⟨n, hnn, rfl, ob, hq⟩ := hrel
            have HQ : Hid _ := hq
            clear hq
            have ob1 := (Onw.alloc w1 _).trans ob
            have U2 := U1.go ob1
            by_cases hnt : n < (fm f).nn
            · have tb := ((Blk.new w1 67 #[.slice pa (fm f).nn (fm f).nn, .slice da (fm f).nn (fm f).nn]).onw ob).cell
              obtain ⟨pb, po, rfl, hpc⟩ := hdep.onw ob1 (by omega)
              have hpn := hpc n hnt
              clear hpc
              have sn : Hid (findN (bad5 (fm f).toFD) n ((fm f).nn - n) = if bad5 (fm f).toFD n = true then some n else findN (bad5 (fm f).toFD) (n + 1) ((fm f).nn - (n + 1))) := by
                show _ = _
                rw [show (fm f).nn - n = ((fm f).nn - (n + 1)) + 1 from by omega]; rfl
              have e5 : Hid (bad5 (fm f).toFD n = decide (100 < depE (ndOf (fm f).nm) (fm f).nn n)) := rfl
              by_cases hd : 100 < depE (ndOf (fm f).nm) (fm f).nn n
              · go_wp2_with fail
                refine (l3fault_any _ _ _ _).mono ?_
                rintro e w2 ⟨rfl, hb2⟩
                have U3 := U2.go hb2
                have bq := U3.b1.cell
                have bf := U3.b1.free
                clear tb hpn
                go_wp2_with fail
                exact bodyPost_ret (v := .agg #[.int .i64 5, .int .i64 f, .int .i64 n]) (by simp [results, Tryz.results12, go_sem, bq]) rfl ⟨ret_flt (x := ⟨5, f, n⟩) (by rw [fin2.out, HR.out, st.out, HQ.out, sn.out, e5.out, decide_eq_true hd]; rfl), below_set (below_set (below_set U3.onw (by omega) _) (by omega) _) (by omega) _⟩
              · go_wp2_with fail
                go_roundw
                case rel => exact ⟨n + 1, by omega, by go_num, ob, by rw [HQ.out, sn.out, e5.out, decide_eq_false (by omega)]; rfl⟩
                case measure => simp [intOf]; omega
            · have sn : Hid (findN (bad5 (fm f).toFD) n ((fm f).nn - n) = none) := by
                show _ = _
                rw [show (fm f).nn - n = 0 from by omega]; rfl
              go_wp2_with fail
              go_roundw
              case rel => exact ⟨f + 1, by omega, by go_num, U2, by rw [HR.out, st.out, HQ.out, sn.out]⟩
              case measure => simp [intOf]; omega
        · have st : Hid (findF (fun f => findN (bad5 (fm f).toFD) 0 (fm f).nn) f (k - f) = none) := by
            show _ = _
            rw [show k - f = 0 from by omega]; rfl
          have bq := U.b1.cell
          have bf := U.b1.free
          go_wp2_with fail
          exact bodyPost_ret (v := .agg #[.int .i64 0, .int .i64 0, .int .i64 0]) (by simp [results, Tryz.results12, go_sem, bq]) rfl ⟨ret_none (by rw [fin2.out, HR.out, st.out]; rfl), below_set (below_set (below_set U.onw (by omega) _) (by omega) _) (by omega) _⟩
end Go.Proofs.YtnokgdgikdgaeaaGreat

namespace Go.Proofs.YtnokgdgikdgaeaaGreat
open Go.RowKit
attribute [local go_sem] run_store_float

theorem seeL_step (nv : Nat) (rf : Nat → Int) (seen : Nat → Bool) (i m : Nat) : seeL nv rf seen i (m + 1) = if rf i < 0 ∨ (nv : Int) ≤ rf i then (false, seen) else if seen (rf i).toNat then (false, seen) else seeL nv rf (fun k => if k = (rf i).toNat then true else seen k) (i + 1) m := rfl

set_option maxRecDepth 100000 in
set_option maxHeartbeats 4000000 in
theorem l3refs_see (ua : Option Addr) (un uc : Nat) (m : FM) (ta da : Option Addr) (tc dc : Nat) (at_ : Nat) (sb : Nat) (cur : Array Value) (seen : Nat → Bool) (w : World)
    (hat : at_ < m.nn) (hn : m.nn ≤ 1048576) (hv : m.nv ≤ 1048576) (hr : (m.nm at_).nr ≤ 1048576) (ha : m.At w) (hsb : Blk w sb 4 cur) (hcur : BArr cur m.nv seen)
    (hsep : 0 < (m.nm at_).nr → ∀ x, (m.nm at_).ra = some x → x.block < sb) (h26 : (m.nm at_).kind ≠ 26) (h27 : (m.nm at_).kind ≠ 27) (h36 : (m.nm at_).kind ≠ 36) :
    Calls Tryz.prog 34 #[.agg #[.slice ua un uc], .agg #[.string m.name, .int .i64 m.line, .int .i64 m.params, .bool m.rest, .slice m.va m.nv m.vc, .slice m.ua m.nu m.uc, .slice m.na m.nn m.nc], .agg #[.slice ta m.nn tc, .slice da m.nn dc], .int .i64 at_, .slice (some ⟨sb, 0, none⟩) m.nv m.nv] w
      fun e w' => ∃ cur', e = .returned (.bool (seeL m.nv (m.nm at_).rf seen 0 (m.nm at_).nr).1) ∧ Below sb w w' ∧ Blk w' sb 4 cur' ∧ BArr cur' m.nv (seeL m.nv (m.nm at_).rf seen 0 (m.nm at_).nr).2 := by
  obtain ⟨b, off, hna, hc⟩ := ha.2.2.1 (by omega)
  obtain ⟨c0, c1, c2, c3, c4, c5, c6, c7⟩ := hc at_ hat
  have zb := cell_lt c0
  have hI := (ha.2.2.2 at_ hat).1
  clear hc
  have e27 : ((m.nm at_).kind == 27) = false := by simp [h27]
  have e36 : ((m.nm at_).kind == 36) = false := by simp [h36]
  have e26 : ((m.nm at_).kind == 26) = false := by simp [h26]
  obtain ⟨name, line, params, rest, nv, vr, nu, ul, ui, nn, nm, va, vc, ua', uc', na, nc⟩ := m
  simp only at *
  subst hna
  obtain ⟨RA, hRA⟩ : ∃ RA, (nm at_).ra = RA := ⟨_, rfl⟩
  rw [hRA] at c6 hI hsep
  clear hRA ha h26 h27 h36
  have zs := hsb.lt
  have h3 : ∀ x y z b' o', b' < w.heap.size → (((w.alloc x).alloc y).alloc z).cell? ⟨b', o', none⟩ = w.cell? ⟨b', o', none⟩ := fun x y z b' o' h => (bcell (((Onw.alloc w x).trans (Onw.alloc _ y)).trans (Onw.alloc _ z))).1 b' o' h
  go_enter Tryz.func34, Tryz.ntmps34
  go_wp2_with fail
  clear c0 c1 c2 c3 c4 c5 c6 c7 h3
  have H4 := blk4 w (Obj.cells #[.slice ua un uc] 31) (Obj.cells #[.string name, .int .i64 line, .int .i64 params, .bool rest, .slice va nv vc, .slice ua' nu uc', .slice (some ⟨b, off, none⟩) nn nc] 61) (Obj.cells #[.slice ta nn tc, .slice da nn dc] 67) (Obj.cells #[.int .i64 (nm at_).kind, .int .i64 (nm at_).line, .int .i64 (nm at_).op, .int .i64 (nm at_).num, .float .f64 (nm at_).flt, .string (nm at_).str, .slice RA (nm at_).nr (nm at_).rc, .slice (nm at_).ka (nm at_).nk (nm at_).kc] 71)
  have ob := ((((Onw.alloc w (Obj.cells #[.slice ua un uc] 31)).trans (Onw.alloc _ (Obj.cells #[.string name, .int .i64 line, .int .i64 params, .bool rest, .slice va nv vc, .slice ua' nu uc', .slice (some ⟨b, off, none⟩) nn nc] 61))).trans (Onw.alloc _ (Obj.cells #[.slice ta nn tc, .slice da nn dc] 67)))).trans (Onw.alloc _ (Obj.cells #[.int .i64 (nm at_).kind, .int .i64 (nm at_).line, .int .i64 (nm at_).op, .int .i64 (nm at_).num, .float .f64 (nm at_).flt, .string (nm at_).str, .slice RA (nm at_).nr (nm at_).rc, .slice (nm at_).ka (nm at_).nk (nm at_).kc] 71))
  go_loopw [58] (fun i wr => ∃ (k : Nat) (cur' : Array Value) (seen' : Nat → Bool), k ≤ (nm at_).nr ∧ i = .int .i64 k ∧ Below sb w wr ∧ w.heap.size + 4 ≤ wr.heap.size ∧
      Blk wr (w.heap.size + 1) 61 #[.string name, .int .i64 line, .int .i64 params, .bool rest, .slice va nv vc, .slice ua' nu uc', .slice (some ⟨b, off, none⟩) nn nc] ∧ Blk wr (w.heap.size + 1 + 1 + 1) 71 #[.int .i64 (nm at_).kind, .int .i64 (nm at_).line, .int .i64 (nm at_).op, .int .i64 (nm at_).num, .float .f64 (nm at_).flt, .string (nm at_).str, .slice RA (nm at_).nr (nm at_).rc, .slice (nm at_).ka (nm at_).nk (nm at_).kc] ∧ IntsAt wr RA (nm at_).nr (nm at_).rf ∧
      Blk wr sb 4 cur' ∧ BArr cur' nv seen' ∧ seeL nv (nm at_).rf seen 0 (nm at_).nr = seeL nv (nm at_).rf seen' k ((nm at_).nr - k)) (fun i _ => (nm at_).nr - (intOf i).toNat)
  case atStart => exact ⟨0, cur, seen, Nat.zero_le _, rfl, Below.mono ob (by omega), by simp, H4.2.1, H4.2.2.2.1, hI.onw ob, hsb.onw ob, hcur, rfl⟩
  case round =>
    clear hI hsb hcur H4 ob
    obtain ⟨k, cur', seen', hk, rfl, hb, hz, B1, B3, hI, hsb, hcur, hr'⟩ := hrel
    have HR : Hid _ := hr'
    clear hr'
    have b1 := B1.cell
    have b3 := B3.cell
    by_cases hlt : k < (nm at_).nr
    · obtain ⟨rb, ro, rfl, hrc⟩ := hI (by omega)
      have hrk := hrc k hlt
      have hrs := hsep (by omega) _ rfl
      simp only at hrs
      clear hrc
      have st : Hid (seeL nv (nm at_).rf seen' k ((nm at_).nr - k) = if (nm at_).rf k < 0 ∨ (nv : Int) ≤ (nm at_).rf k then (false, seen') else if seen' ((nm at_).rf k).toNat then (false, seen') else seeL nv (nm at_).rf (fun x => if x = ((nm at_).rf k).toNat then true else seen' x) (k + 1) ((nm at_).nr - (k + 1))) := by
        show _ = _
        rw [show (nm at_).nr - k = ((nm at_).nr - (k + 1)) + 1 from by omega]; rfl
      by_cases hbad : (nm at_).rf k < 0 ∨ (nv : Int) ≤ (nm at_).rf k
      · have fin : Hid (seeL nv (nm at_).rf seen 0 (nm at_).nr = (false, seen')) := by show _ = _; rw [HR.out, st.out, if_pos hbad]
        rcases hbad with hx | hx
        all_goals
          go_wp2_with fail
          go_ret
          exact ⟨cur', ret_bool (by rw [fin.out]), hb, hsb, by rw [fin.out]; exact hcur⟩
      · obtain ⟨q, hq⟩ := Int.eq_ofNat_of_zero_le (show 0 ≤ (nm at_).rf k by omega)
        have hqn : q < nv := by omega
        have st2 : Hid (seeL nv (nm at_).rf seen 0 (nm at_).nr = if seen' q then (false, seen') else seeL nv (nm at_).rf (fun x => if x = q then true else seen' x) (k + 1) ((nm at_).nr - (k + 1))) := by
          show _ = _
          rw [HR.out, st.out, if_neg hbad, hq]; rfl
        rw [hq] at hrk
        clear hbad hq st HR
        have hsq : wr.cell? ⟨sb, q, none⟩ = some (.bool (seen' q)) := by rw [hsb.cell]; exact hcur.2 q hqn
        have fs := hsb.free
        cases hx : seen' q
        · rw [hx] at hsq
          go_wp2_with fail
          go_roundw
          case rel =>
            have K := kept_setCell wr sb q (.bool true)
            exact ⟨k + 1, _, _, by omega, by go_num, below_set hb (Nat.le_refl _) _, by simpa using hz, B1.kept K (by omega), B3.kept K (by omega), IntsAt.kept K (fun x hx => by cases hx; simp only; omega) hI, hsb.set q _, hcur.set q true, by rw [st2.out, hx]; rfl⟩
          case measure => simp [intOf]; omega
        · rw [hx] at hsq
          go_wp2_with fail
          go_ret
          exact ⟨cur', ret_bool (by rw [st2.out, hx]; rfl), hb, hsb, by rw [st2.out, hx]; exact hcur⟩
    · have fin : Hid (seeL nv (nm at_).rf seen 0 (nm at_).nr = (true, seen')) := by
        show _ = _
        rw [HR.out, show (nm at_).nr - k = 0 from by omega]; rfl
      go_wp2_with fail
      go_ret
      exact ⟨cur', ret_bool (by rw [fin.out]), hb, hsb, by rw [fin.out]; exact hcur⟩
end Go.Proofs.YtnokgdgikdgaeaaGreat

namespace Go.Proofs.YtnokgdgikdgaeaaGreat
open Go.RowKit
attribute [local go_sem] run_store_float

set_option maxRecDepth 100000 in
set_option maxHeartbeats 4000000 in
theorem l3refs_27 (ua : Option Addr) (un uc : Nat) (m : FM) (ta da : Option Addr) (tc dc : Nat) (at_ : Nat) (sv : Value) (w : World)
    (hat : at_ < m.nn) (hn : m.nn ≤ 1048576) (hu : m.nu ≤ 1048576) (hr0 : 0 < (m.nm at_).nr) (ha : m.At w) (h27 : (m.nm at_).kind = 27) :
    Calls Tryz.prog 34 #[.agg #[.slice ua un uc], .agg #[.string m.name, .int .i64 m.line, .int .i64 m.params, .bool m.rest, .slice m.va m.nv m.vc, .slice m.ua m.nu m.uc, .slice m.na m.nn m.nc], .agg #[.slice ta m.nn tc, .slice da m.nn dc], .int .i64 at_, sv] w
      fun e w' => e = .returned (.bool (decide (0 ≤ (m.nm at_).rf 0) && decide ((m.nm at_).rf 0 < m.nu))) ∧ Onw w w' := by
  obtain ⟨b, off, hna, hc⟩ := ha.2.2.1 (by omega)
  obtain ⟨c0, c1, c2, c3, c4, c5, c6, c7⟩ := hc at_ hat
  have zb := cell_lt c0
  obtain ⟨rb, ro, hra, hrc⟩ := (ha.2.2.2 at_ hat).1 hr0
  have hrk := hrc 0 hr0
  have zr := cell_lt hrk
  clear hc hrc
  have e27 : ((m.nm at_).kind == 27) = true := by simp [h27]
  obtain ⟨name, line, params, rest, nv, vr, nu, ul, ui, nn, nm, va, vc, ua', uc', na, nc⟩ := m
  simp only at *
  subst hna
  rw [hra] at c6
  clear hra ha h27
  rw [Nat.add_zero] at hrk
  have h3 : ∀ x y z b' o', b' < w.heap.size → (((w.alloc x).alloc y).alloc z).cell? ⟨b', o', none⟩ = w.cell? ⟨b', o', none⟩ := fun x y z b' o' h => (bcell (((Onw.alloc w x).trans (Onw.alloc _ y)).trans (Onw.alloc _ z))).1 b' o' h
  have h4 : ∀ x y z u b' o', b' < w.heap.size → ((((w.alloc x).alloc y).alloc z).alloc u).cell? ⟨b', o', none⟩ = w.cell? ⟨b', o', none⟩ := fun x y z u b' o' h => (bcell ((((Onw.alloc w x).trans (Onw.alloc _ y)).trans (Onw.alloc _ z)).trans (Onw.alloc _ u))).1 b' o' h
  have i0 : (0 : Int) < ((nm at_).nr : Int) := by omega
  by_cases hx : 0 ≤ (nm at_).rf 0
  · have dx : decide (0 ≤ (nm at_).rf 0) = true := by simpa using hx
    go_enter Tryz.func34, Tryz.ntmps34
    go_wp2_with fail
    go_quiet (fail)
    go_wp2_with fail
    go_ret
    exact ⟨ret_bool (by rw [dx]; rfl), onw_drewN (((((Onw.alloc _ _).trans (Onw.alloc _ _)).trans (Onw.alloc _ _))).trans (Onw.alloc _ _)) _⟩
  · have dx : decide (0 ≤ (nm at_).rf 0) = false := by simpa using hx
    go_enter Tryz.func34, Tryz.ntmps34
    go_wp2_with fail
    go_quiet (fail)
    go_wp2_with fail
    go_ret
    exact ⟨ret_bool (by rw [dx]; rfl), onw_drewN (((((Onw.alloc _ _).trans (Onw.alloc _ _)).trans (Onw.alloc _ _))).trans (Onw.alloc _ _)) _⟩
set_option maxRecDepth 100000 in
set_option maxHeartbeats 4000000 in
theorem l3refs_36 (ua : Option Addr) (un uc : Nat) (m : FM) (ta da : Option Addr) (tc dc : Nat) (at_ : Nat) (sv : Value) (w : World)
    (hat : at_ < m.nn) (hn : m.nn ≤ 1048576) (hr0 : 0 < (m.nm at_).nr) (ha : m.At w) (h36 : (m.nm at_).kind = 36) :
    Calls Tryz.prog 34 #[.agg #[.slice ua un uc], .agg #[.string m.name, .int .i64 m.line, .int .i64 m.params, .bool m.rest, .slice m.va m.nv m.vc, .slice m.ua m.nu m.uc, .slice m.na m.nn m.nc], .agg #[.slice ta m.nn tc, .slice da m.nn dc], .int .i64 at_, sv] w
      fun e w' => e = .returned (.bool (decide (0 ≤ (m.nm at_).rf 0) && decide ((m.nm at_).rf 0 < un))) ∧ Onw w w' := by
  obtain ⟨b, off, hna, hc⟩ := ha.2.2.1 (by omega)
  obtain ⟨c0, c1, c2, c3, c4, c5, c6, c7⟩ := hc at_ hat
  have zb := cell_lt c0
  obtain ⟨rb, ro, hra, hrc⟩ := (ha.2.2.2 at_ hat).1 hr0
  have hrk := hrc 0 hr0
  have zr := cell_lt hrk
  clear hc hrc
  have e27 : ((m.nm at_).kind == 27) = false := by simp [h36]
  have e36 : ((m.nm at_).kind == 36) = true := by simp [h36]
  obtain ⟨name, line, params, rest, nv, vr, nu, ul, ui, nn, nm, va, vc, ua', uc', na, nc⟩ := m
  simp only at *
  subst hna
  rw [hra] at c6
  clear hra ha h36
  rw [Nat.add_zero] at hrk
  have h3 : ∀ x y z b' o', b' < w.heap.size → (((w.alloc x).alloc y).alloc z).cell? ⟨b', o', none⟩ = w.cell? ⟨b', o', none⟩ := fun x y z b' o' h => (bcell (((Onw.alloc w x).trans (Onw.alloc _ y)).trans (Onw.alloc _ z))).1 b' o' h
  have h4 : ∀ x y z u b' o', b' < w.heap.size → ((((w.alloc x).alloc y).alloc z).alloc u).cell? ⟨b', o', none⟩ = w.cell? ⟨b', o', none⟩ := fun x y z u b' o' h => (bcell ((((Onw.alloc w x).trans (Onw.alloc _ y)).trans (Onw.alloc _ z)).trans (Onw.alloc _ u))).1 b' o' h
  have i0 : (0 : Int) < ((nm at_).nr : Int) := by omega
  by_cases hx : 0 ≤ (nm at_).rf 0
  · have dx : decide (0 ≤ (nm at_).rf 0) = true := by simpa using hx
    go_enter Tryz.func34, Tryz.ntmps34
    go_wp2_with fail
    go_quiet (fail)
    go_wp2_with fail
    go_ret
    exact ⟨ret_bool (by rw [dx]; rfl), onw_drewN (((((Onw.alloc _ _).trans (Onw.alloc _ _)).trans (Onw.alloc _ _))).trans (Onw.alloc _ _)) _⟩
  · have dx : decide (0 ≤ (nm at_).rf 0) = false := by simpa using hx
    go_enter Tryz.func34, Tryz.ntmps34
    go_wp2_with fail
    go_quiet (fail)
    go_wp2_with fail
    go_ret
    exact ⟨ret_bool (by rw [dx]; rfl), onw_drewN (((((Onw.alloc _ _).trans (Onw.alloc _ _)).trans (Onw.alloc _ _))).trans (Onw.alloc _ _)) _⟩

set_option maxRecDepth 100000 in
set_option maxHeartbeats 4000000 in
theorem l3refs_26 (ua : Option Addr) (un uc : Nat) (m : FM) (ta da : Option Addr) (tc dc : Nat) (par : Nat → Int) (at_ : Nat) (sv : Value) (w : World)
    (hat : at_ < m.nn) (hn : m.nn ≤ 1048576) (hv : m.nv ≤ 1048576) (hr0 : 0 < (m.nm at_).nr) (hr1 : (m.nm at_).nr ≤ 1048576) (hkn : ∀ i, i < m.nn → (m.nm i).nr ≤ 1048576 ∧ (m.nm i).nk ≤ 1048576)
    (hp : ParOk par m.nn) (hks : ∀ i, i < m.nn → ∀ j, j < (m.nm i).nk → 0 ≤ (m.nm i).kd j ∧ (m.nm i).kd j < i) (ha : m.At w) (ht : IntsAt w ta m.nn par) (h26 : (m.nm at_).kind = 26) :
    Calls Tryz.prog 34 #[.agg #[.slice ua un uc], .agg #[.string m.name, .int .i64 m.line, .int .i64 m.params, .bool m.rest, .slice m.va m.nv m.vc, .slice m.ua m.nu m.uc, .slice m.na m.nn m.nc], .agg #[.slice ta m.nn tc, .slice da m.nn dc], .int .i64 at_, sv] w
      fun e w' => e = .returned (.bool (decide (0 ≤ (m.nm at_).rf 0) && decide ((m.nm at_).rf 0 < m.nv) && visB m.toFD par at_ ((m.nm at_).rf 0))) ∧ Onw w w' := by
  have ha0 := ha
  obtain ⟨b, off, hna, hc⟩ := ha.2.2.1 (by omega)
  obtain ⟨c0, c1, c2, c3, c4, c5, c6, c7⟩ := hc at_ hat
  have zb := cell_lt c0
  obtain ⟨rb, ro, hra, hrc⟩ := (ha.2.2.2 at_ hat).1 hr0
  have hrk := hrc 0 hr0
  have zr := cell_lt hrk
  clear hc hrc ha
  have e27 : ((m.nm at_).kind == 27) = false := by simp [h26]
  have e36 : ((m.nm at_).kind == 36) = false := by simp [h26]
  have e26 : ((m.nm at_).kind == 26) = true := by simp [h26]
  have HKN : Hid _ := hkn
  have HKS : Hid _ := hks
  clear h26 hkn hks
  obtain ⟨name, line, params, rest, nv, vr, nu, ul, ui, nn, nm, va, vc, ua', uc', na, nc⟩ := m
  simp only at *
  subst hna
  rw [hra] at c6
  clear hra
  rw [Nat.add_zero] at hrk
  have h3 : ∀ x y z b' o', b' < w.heap.size → (((w.alloc x).alloc y).alloc z).cell? ⟨b', o', none⟩ = w.cell? ⟨b', o', none⟩ := fun x y z b' o' h => (bcell (((Onw.alloc w x).trans (Onw.alloc _ y)).trans (Onw.alloc _ z))).1 b' o' h
  have h4 : ∀ x y z u b' o', b' < w.heap.size → ((((w.alloc x).alloc y).alloc z).alloc u).cell? ⟨b', o', none⟩ = w.cell? ⟨b', o', none⟩ := fun x y z u b' o' h => (bcell ((((Onw.alloc w x).trans (Onw.alloc _ y)).trans (Onw.alloc _ z)).trans (Onw.alloc _ u))).1 b' o' h
  have i0 : (0 : Int) < ((nm at_).nr : Int) := by omega
  go_enter Tryz.func34, Tryz.ntmps34
  go_wp2_with fail
  refine wp_loop_rounds 1 ?_
  rw [rounds_succ]
  by_cases hx : 0 ≤ (nm at_).rf 0
  · have dx : decide (0 ≤ (nm at_).rf 0) = true := by simpa using hx
    by_cases hy : (nm at_).rf 0 < nv
    · have dy : decide ((nm at_).rf 0 < (nv : Int)) = true := by simpa using hy
      go_wp2_with fail
      refine (l3visible_any ⟨name, line, params, rest, nv, vr, nu, ul, ui, nn, nm, va, vc, ua', uc', some ⟨b, off, none⟩, nc⟩ ta da tc dc par at_ _ _ hat hn HKN.out hp HKS.out (by exact ha0.onw (((((Onw.alloc _ _).trans (Onw.alloc _ _)).trans (Onw.alloc _ _))).trans (Onw.alloc _ _))) (by exact ht.onw (((((Onw.alloc _ _).trans (Onw.alloc _ _)).trans (Onw.alloc _ _))).trans (Onw.alloc _ _)))).mono ?_
      rintro e w1 ⟨rfl, hb⟩
      go_wp2_with fail
      go_ret
      exact ⟨ret_bool (by first | rfl | (rw [dx, dy]; rfl)), Onw.trans (((((Onw.alloc _ _).trans (Onw.alloc _ _)).trans (Onw.alloc _ _))).trans (Onw.alloc _ _)) hb⟩
    · have dy : decide ((nm at_).rf 0 < (nv : Int)) = false := by simpa using hy
      go_wp2_with fail
      go_ret
      exact ⟨ret_bool (by first | rfl | (rw [dx, dy]; rfl)), ((((Onw.alloc _ _).trans (Onw.alloc _ _)).trans (Onw.alloc _ _))).trans (Onw.alloc _ _)⟩
  · have dx : decide (0 ≤ (nm at_).rf 0) = false := by simpa using hx
    go_wp2_with fail
    go_ret
    exact ⟨ret_bool (by first | rfl | (rw [dx]; rfl)), ((((Onw.alloc _ _).trans (Onw.alloc _ _)).trans (Onw.alloc _ _))).trans (Onw.alloc _ _)⟩
end Go.Proofs.YtnokgdgikdgaeaaGreat

namespace Go.Proofs.YtnokgdgikdgaeaaGreat
open Go.RowKit
attribute [local go_sem] run_store_float

set_option maxRecDepth 100000 in
set_option maxHeartbeats 4000000 in
theorem l3ups_any (u : UM) (f g : Nat) (ta da : Option Addr) (tc dc : Nat) (par : Nat → Int) (at_ : Nat) (w : World) (hf : f < u.nf) (hg : g < u.nf) (hn : u.nf ≤ 1048576) (hs : ∀ i, i < u.nf → (u.fm i).Small)
    (hat : at_ < (u.fm f).nn) (hp : ParOk par (u.fm f).nn) (hks : ∀ i, i < (u.fm f).nn → ∀ j, j < ((u.fm f).nm i).nk → 0 ≤ ((u.fm f).nm i).kd j ∧ ((u.fm f).nm i).kd j < i) (ha : u.At w) (ht : IntsAt w ta (u.fm f).nn par) :
    Calls Tryz.prog 36 #[.agg #[.slice u.fa u.nf u.fc], .int .i64 f, .agg #[.slice ta (u.fm f).nn tc, .slice da (u.fm f).nn dc], .int .i64 at_, .int .i64 g] w
      fun e w' => e = .returned (.bool (upsB (u.fm f).toFD par at_ (u.fm g).toFD)) ∧ Onw w w' := by
  obtain ⟨nf, fm, fa, fc⟩ := u
  simp only at *
  obtain ⟨b, off, hfa, hc⟩ := FnsAt.onw (Onw.refl w) ha |>.1 (by show 0 < nf; omega)
  simp only at hfa
  subst hfa
  have HC : Hid _ := hc
  have g5 := (hc g hg).c5
  have zb := cell_lt g5
  clear hc
  obtain ⟨s1, s2, s3, s4⟩ := hs f hf
  obtain ⟨t1, t2, t3, t4⟩ := hs g hg
  have HS4 : Hid _ := s4
  have HKS : Hid _ := hks
  have aF := ha.2 f hf
  have aU := (ha.2 g hg).2.1
  simp only at aF aU
  clear hs s4 t4 hks ha
  obtain ⟨UA, hUA⟩ : ∃ UA, (fm g).ua = UA := ⟨_, rfl⟩
  rw [hUA] at g5 aU
  clear hUA
  go_enter Tryz.func36, Tryz.ntmps36
  go_wp2_with fail
  clear g5
  go_loopw [20] (fun i wr => ∃ k : Nat, k ≤ (fm g).nu ∧ i = .int .i64 k ∧ Onw w wr ∧ Blk wr w.heap.size 31 #[.slice (some ⟨b, off, none⟩) nf fc] ∧
      Blk wr (w.heap.size + 1) 67 #[.slice ta (fm f).nn tc, .slice da (fm f).nn dc] ∧ upsB (fm f).toFD par at_ (fm g).toFD = allB (fun i => upB (fm f).toFD par at_ ((fm g).ul i) ((fm g).ui i)) k ((fm g).nu - k)) (fun i _ => (fm g).nu - (intOf i).toNat)
  case atStart => exact ⟨0, Nat.zero_le _, rfl, (Onw.alloc _ _).trans (Onw.alloc _ _), (Blk.new _ _ _).onw (Onw.alloc _ _), by have := Blk.new (w.alloc (Obj.cells #[.slice (some ⟨b, off, none⟩) nf fc] 31)) 67 #[.slice ta (fm f).nn tc, .slice da (fm f).nn dc]; simpa using this, rfl⟩
  case round =>
    obtain ⟨k, hk, rfl, hb, B0, B1, hr⟩ := hrel
    have HR : Hid _ := hr
    clear hr
    have b0 := B0.cell
    have b1 := B1.cell
    have z0 := B0.lt
    have z1 := B1.lt
    by_cases hlt : k < (fm g).nu
    · obtain ⟨ub, uo, rfl, huc⟩ := aU.onw hb (by omega)
      obtain ⟨p0, p1⟩ := huc k hlt
      clear huc
      obtain ⟨c0, c1, c2, c3, c4, c5, c6⟩ := (HC.out f hf).onw hb
      have zc := cell_lt c0
      have fi : (f : Int) < (nf : Int) := by omega
      have st : Hid (allB (fun i => upB (fm f).toFD par at_ ((fm g).ul i) ((fm g).ui i)) k ((fm g).nu - k) = (upB (fm f).toFD par at_ ((fm g).ul k) ((fm g).ui k) && allB (fun i => upB (fm f).toFD par at_ ((fm g).ul i) ((fm g).ui i)) (k + 1) ((fm g).nu - (k + 1)))) := by
        show _ = _
        rw [show (fm g).nu - k = ((fm g).nu - (k + 1)) + 1 from by omega]; rfl
      have uT : Hid ((fm g).ul k = true → upB (fm f).toFD par at_ ((fm g).ul k) ((fm g).ui k) = (decide (0 ≤ (fm g).ui k) && decide ((fm g).ui k < (fm f).nv) && visB (fm f).toFD par at_ ((fm g).ui k))) := fun h => by rw [upB, if_pos h]; rfl
      have uF : Hid ((fm g).ul k = false → upB (fm f).toFD par at_ ((fm g).ul k) ((fm g).ui k) = (decide (0 ≤ (fm g).ui k) && decide ((fm g).ui k < (fm f).nu))) := fun h => by rw [upB, if_neg (by rw [h]; decide)]; rfl
      cases hl : (fm g).ul k
      · have eU := uF.out hl
        have EU : Hid _ := eU
        rw [hl] at p0
        clear uT uF eU
        by_cases hx : (fm g).ui k < 0
        · have dx : decide ((fm g).ui k < 0) = true := by simpa using hx
          go_wp2_with fail
          go_quiet (fail)
          go_wp2_with fail
          go_ret
          exact ⟨ret_bool (by rw [HR.out, st.out, EU.out, decide_eq_false (by omega)]; rfl), hb.trans (onw_drewN (Onw.alloc _ _) _)⟩
        · have dx : decide ((fm g).ui k < 0) = false := by simpa using hx
          by_cases hy : ((fm f).nu : Int) ≤ (fm g).ui k
          · have dy : decide (((fm f).nu : Int) ≤ (fm g).ui k) = true := by simpa using hy
            go_wp2_with fail
            go_quiet (fail)
            go_wp2_with fail
            go_ret
            exact ⟨ret_bool (by rw [HR.out, st.out, EU.out, decide_eq_true (by omega), decide_eq_false (by omega)]; rfl), hb.trans (onw_drewN (Onw.alloc _ _) _)⟩
          · have dy : decide (((fm f).nu : Int) ≤ (fm g).ui k) = false := by simpa using hy
            go_wp2_with fail
            go_quiet (fail)
            go_wp2_with fail
            go_roundw
            case rel => exact ⟨k + 1, by omega, by go_num, hb.trans (onw_drewN (Onw.alloc _ _) _), B0.onw (onw_drewN (Onw.alloc _ _) _), B1.onw (onw_drewN (Onw.alloc _ _) _), by rw [HR.out, st.out, EU.out, decide_eq_true (by omega), decide_eq_true (by omega)]; rfl⟩
            case measure => simp [intOf]; omega
      · have eU := uT.out hl
        have EU : Hid _ := eU
        rw [hl] at p0
        clear uT uF eU
        by_cases hx : (fm g).ui k < 0
        · have dx : decide ((fm g).ui k < 0) = true := by simpa using hx
          go_wp2_with fail
          go_quiet (fail)
          go_wp2_with fail
          go_ret
          exact ⟨ret_bool (by rw [HR.out, st.out, EU.out, decide_eq_false (by omega)]; rfl), hb.trans (onw_drewN (Onw.alloc _ _) _)⟩
        · have dx : decide ((fm g).ui k < 0) = false := by simpa using hx
          by_cases hy : ((fm f).nv : Int) ≤ (fm g).ui k
          · have dy : decide (((fm f).nv : Int) ≤ (fm g).ui k) = true := by simpa using hy
            go_wp2_with fail
            go_quiet (fail)
            go_wp2_with fail
            go_ret
            exact ⟨ret_bool (by rw [HR.out, st.out, EU.out, decide_eq_true (by omega), decide_eq_false (by omega)]; rfl), hb.trans (onw_drewN (Onw.alloc _ _) _)⟩
          · have dy : decide (((fm f).nv : Int) ≤ (fm g).ui k) = false := by simpa using hy
            go_wp2_with fail
            have ix : Hid (decide (0 ≤ (fm g).ui k) = true ∧ decide ((fm g).ui k < ((fm f).nv : Int)) = true) := ⟨decide_eq_true (by omega), decide_eq_true (by omega)⟩
            go_cut [53] (fun v wc => v = .bool (!visB (fm f).toFD par at_ ((fm g).ui k)) ∧ Onw wr wc)
            case first =>
              go_region_held3 (fun w' => w'.cell? ⟨wr.heap.size, 1, none⟩ = some (.int .i64 ((fm g).ui k)) ∧ w'.cell? ⟨w.heap.size, 0, none⟩ = some (.slice (some ⟨b, off, none⟩) nf fc) ∧ w'.cell? ⟨w.heap.size + 1, 0, none⟩ = some (.slice ta (fm f).nn tc) ∧ w'.cell? ⟨w.heap.size + 1, 1, none⟩ = some (.slice da (fm f).nn dc) ∧
                  w'.cell? ⟨b, off + f * 7, none⟩ = some (.string (fm f).name) ∧ w'.cell? ⟨b, off + f * 7 + 1, none⟩ = some (.int .i64 (fm f).line) ∧ w'.cell? ⟨b, off + f * 7 + 2, none⟩ = some (.int .i64 (fm f).params) ∧ w'.cell? ⟨b, off + f * 7 + 3, none⟩ = some (.bool (fm f).rest) ∧ w'.cell? ⟨b, off + f * 7 + 4, none⟩ = some (.slice (fm f).va (fm f).nv (fm f).vc) ∧ w'.cell? ⟨b, off + f * 7 + 5, none⟩ = some (.slice (fm f).ua (fm f).nu (fm f).uc) ∧ w'.cell? ⟨b, off + f * 7 + 6, none⟩ = some (.slice (fm f).na (fm f).nn (fm f).nc)) (go_keep)
                (first | (go_at_call 53; refine (l3visible_any (fm f) ta da tc dc par at_ _ _ hat s3 HS4.out hp HKS.out (by exact aF.onw (hb.trans (Below.drew (Onw.alloc _ _)))) (by exact ht.onw (hb.trans (Below.drew (Onw.alloc _ _))))).mono ?_; rintro e w1 ⟨rfl, hb1⟩; have O := Onw.trans (Below.drew (Onw.alloc wr _)) hb1; have q0 := cell_onw O (b0 0); have q1 := cell_onw O (b1 0); have q2 := cell_onw O (b1 1); have d0 := cell_onw O c0; have d1 := cell_onw O c1; have d2 := cell_onw O c2; have d3 := cell_onw O c3; have d4 := cell_onw O c4; have d5 := cell_onw O c5; have d6 := cell_onw O c6; have q9 := cell_onw hb1 (show World.cell? _ ⟨wr.heap.size, 1, none⟩ = some (.int .i64 ((fm g).ui k)) by simp)))
              all_goals (go_wp2_with fail; go_meet)
              all_goals exact ⟨rfl, Onw.trans (Below.drew (Onw.alloc _ _)) hb1⟩
            case rest =>
              obtain ⟨rfl, hbc⟩ := hcut
              clear c0 c1 c2 c3 c4 c5 c6 p0 p1 b0 b1
              cases hvis : visB (fm f).toFD par at_ ((fm g).ui k)
              · go_wp2_with fail
                go_ret
                exact ⟨ret_bool (by rw [HR.out, st.out, EU.out, ix.out.1, ix.out.2, hvis]; rfl), hb.trans hbc⟩
              · go_wp2_with fail
                go_roundw
                case rel => exact ⟨k + 1, by omega, by go_num, hb.trans hbc, B0.onw hbc, B1.onw hbc, by rw [HR.out, st.out, EU.out, ix.out.1, ix.out.2, hvis]; rfl⟩
                case measure => simp [intOf]; omega
    · have st : Hid (allB (fun i => upB (fm f).toFD par at_ ((fm g).ul i) ((fm g).ui i)) k ((fm g).nu - k) = true) := by
        show _ = _
        rw [show (fm g).nu - k = 0 from by omega]; rfl
      go_wp2_with fail
      go_ret
      exact ⟨ret_bool (by rw [HR.out, st.out]), hb⟩
end Go.Proofs.YtnokgdgikdgaeaaGreat

namespace Go.Proofs.YtnokgdgikdgaeaaGreat
open Go.RowKit
attribute [local go_sem] run_store_float

/-- Code 6 of one node, whatever its kind. -/
theorem l3refs_any (u : UM) (m : FM) (ta da : Option Addr) (tc dc : Nat) (par : Nat → Int) (at_ : Nat) (sb : Nat) (cur : Array Value) (seen : Nat → Bool) (w : World)
    (hat : at_ < m.nn) (hm : m.Small) (hok : Ok6 m.toFD) (hp : ParOk par m.nn) (ha : m.At w) (ht : IntsAt w ta m.nn par) (hsb : Blk w sb 4 cur) (hcur : BArr cur m.nv seen)
    (hsep : 0 < (m.nm at_).nr → ∀ x, (m.nm at_).ra = some x → x.block < sb) :
    Calls Tryz.prog 34 #[.agg #[.slice u.fa u.nf u.fc], .agg #[.string m.name, .int .i64 m.line, .int .i64 m.params, .bool m.rest, .slice m.va m.nv m.vc, .slice m.ua m.nu m.uc, .slice m.na m.nn m.nc], .agg #[.slice ta m.nn tc, .slice da m.nn dc], .int .i64 at_, .slice (some ⟨sb, 0, none⟩) m.nv m.nv] w
      fun e w' => ∃ cur', e = .returned (.bool (refsB u.toUD m.toFD par at_ seen).1) ∧ Below sb w w' ∧ Blk w' sb 4 cur' ∧ BArr cur' m.nv (refsB u.toUD m.toFD par at_ seen).2 := by
  have low := hsb.lt
  by_cases h27 : (m.nm at_).kind = 27
  · refine (l3refs_27 u.fa u.nf u.fc m ta da tc dc at_ _ w hat hm.2.2.1 hm.2.1 (hok.one at_ hat (.inr (.inl h27))) ha h27).mono ?_
    rintro e w1 ⟨rfl, hb⟩
    have e1 : refsB u.toUD m.toFD par at_ seen = (decide (0 ≤ (m.nm at_).rf 0) && decide ((m.nm at_).rf 0 < m.nu), seen) := by
      show (if (m.nm at_).kind = 27 then _ else _) = _
      rw [if_pos h27]; rfl
    rw [e1]
    exact ⟨cur, rfl, Below.mono hb (by omega), hsb.onw hb, hcur⟩
  by_cases h36 : (m.nm at_).kind = 36
  · refine (l3refs_36 u.fa u.nf u.fc m ta da tc dc at_ _ w hat hm.2.2.1 (hok.one at_ hat (.inr (.inr h36))) ha h36).mono ?_
    rintro e w1 ⟨rfl, hb⟩
    have e1 : refsB u.toUD m.toFD par at_ seen = (decide (0 ≤ (m.nm at_).rf 0) && decide ((m.nm at_).rf 0 < u.nf), seen) := by
      show (if (m.nm at_).kind = 27 then _ else if (m.nm at_).kind = 36 then _ else _) = _
      rw [if_neg h27, if_pos h36]; rfl
    rw [e1]
    exact ⟨cur, rfl, Below.mono hb (by omega), hsb.onw hb, hcur⟩
  by_cases h26 : (m.nm at_).kind = 26
  · refine (l3refs_26 u.fa u.nf u.fc m ta da tc dc par at_ _ w hat hm.2.2.1 hm.1 (hok.one at_ hat (.inl h26)) (hm.2.2.2 at_ hat).1 hm.2.2.2 hp hok.ok3.kids ha ht h26).mono ?_
    rintro e w1 ⟨rfl, hb⟩
    have e1 : refsB u.toUD m.toFD par at_ seen = (decide (0 ≤ (m.nm at_).rf 0) && decide ((m.nm at_).rf 0 < m.nv) && visB m.toFD par at_ ((m.nm at_).rf 0), seen) := by
      show (if (m.nm at_).kind = 27 then _ else if (m.nm at_).kind = 36 then _ else if (m.nm at_).kind = 26 then _ else _) = _
      rw [if_neg h27, if_neg h36, if_pos h26]; rfl
    rw [e1]
    exact ⟨cur, rfl, Below.mono hb (by omega), hsb.onw hb, hcur⟩
  · refine (l3refs_see u.fa u.nf u.fc m ta da tc dc at_ sb cur seen w hat hm.2.2.1 hm.1 (hm.2.2.2 at_ hat).1 ha hsb hcur hsep h26 h27 h36).mono ?_
    rintro e w1 ⟨cur', rfl, hb, h1, h2⟩
    have e1 : refsB u.toUD m.toFD par at_ seen = seeL m.nv (m.nm at_).rf seen 0 (m.nm at_).nr := by
      show (if (m.nm at_).kind = 27 then _ else if (m.nm at_).kind = 36 then _ else if (m.nm at_).kind = 26 then _ else _) = _
      rw [if_neg h27, if_neg h36, if_neg h26]; rfl
    rw [e1]
    exact ⟨cur', rfl, hb, h1, h2⟩
end Go.Proofs.YtnokgdgikdgaeaaGreat
