import Derived.Test.YtnokgdgikdgaeaaGreatP18
import Derived.Test.YtnokgdgikdgaeaaGreatP01
import Derived.Test.YtnokgdgikdgaeaaGreatP02
import Derived.BigRegion
namespace Go.Proofs.YtnokgdgikdgaeaaGreat
open Go.RowKit
attribute [local go_sem] run_store_float

set_option maxRecDepth 100000 in
set_option maxHeartbeats 2000000 in
theorem l3inloop_any (m : FM) (ta da : Option Addr) (tc dc : Nat) (par : Nat → Int) (at_ : Nat) (w : World) (hat : at_ < m.nn) (hn : m.nn ≤ 1048576) (hkn : ∀ i, i < m.nn → (m.nm i).nk ≤ 1048576)
    (hp : ParOk par m.nn) (hl : ∀ i, i < m.nn → (m.nm i).kind = 6 ∨ (m.nm i).kind = 7 ∨ (m.nm i).kind = 8 → 0 < (m.nm i).nk) (ha : m.At w) (ht : IntsAt w ta m.nn par) :
    Calls Tryz.prog 35 #[.agg #[.string m.name, .int .i64 m.line, .int .i64 m.params, .bool m.rest, .slice m.va m.nv m.vc, .slice m.ua m.nu m.uc, .slice m.na m.nn m.nc], .agg #[.slice ta m.nn tc, .slice da m.nn dc], .int .i64 at_] w fun e w' => e = .returned (.bool (loopUp (ndOf m.nm) par m.nn at_)) ∧ Onw w w' := by
  obtain ⟨tb, tof, rfl, htc⟩ := ht (by omega)
  obtain ⟨b, off, hna, hc⟩ := ha.2.2.1 (by omega)
  have hlt := fun k hk => (hp.lt k hk)
  have HTC : Hid _ := htc
  have HC : Hid _ := hc
  have HL : Hid _ := hl
  have HKN : Hid _ := hkn
  have c0 := htc at_ hat
  have htb := cell_lt c0
  clear htc hc hl hkn hlt
  obtain ⟨name, line, params, rest, nv, vr, nu, ul, ui, nn, nm, va, vc, ua, uc, na, nc⟩ := m
  simp only at *
  subst hna
  go_enter Tryz.func35, Tryz.ntmps35
  go_wp2_with fail
  go_loopw [7, 8] (fun bl up wr => ∃ below f : Nat, below < nn ∧ nn ≤ f + below ∧ bl = .int .i64 below ∧ up = .int .i64 (par below) ∧ Onw w wr ∧
      Blk wr w.heap.size 61 #[.string name, .int .i64 line, .int .i64 params, .bool rest, .slice va nv vc, .slice ua nu uc, .slice (some ⟨b, off, none⟩) nn nc] ∧
      Blk wr (w.heap.size + 1) 67 #[.slice (some ⟨tb, tof, none⟩) nn tc, .slice da nn dc] ∧ loopUp (ndOf nm) par nn at_ = loopUp (ndOf nm) par f below)
    (fun bl _ _ => nn - (intOf bl).toNat)
  case atStart => exact ⟨at_, nn, hat, by omega, rfl, rfl, (Onw.alloc _ _).trans (Onw.alloc _ _), (Blk.new _ _ _).onw (Onw.alloc _ _), by have := Blk.new (w.alloc (Obj.cells #[.string name, .int .i64 line, .int .i64 params, .bool rest, .slice va nv vc, .slice ua nu uc, .slice (some ⟨b, off, none⟩) nn nc] 61)) 67 #[.slice (some ⟨tb, tof, none⟩) nn tc, .slice da nn dc]; simpa using this, rfl⟩
  case round =>
    obtain ⟨below, f, hbl, hf, rfl, rfl, hb, B0, B1, hr⟩ := hrel
    have HR : Hid _ := hr
    clear hr c0
    have b0 := B0.cell
    have b1 := B1.cell
    have z0 := B0.lt
    have z1 := B1.lt
    by_cases hneg : par below < 0
    · have fin : Hid (loopUp (ndOf nm) par f below = false) := by
        obtain ⟨f', rfl⟩ : ∃ f', f = f' + 1 := ⟨f - 1, by omega⟩
        show _ = _
        rw [loopUp, if_pos hneg]
      go_wp2_with fail
      go_ret
      exact ⟨ret_bool (by rw [HR.out, fin.out]), hb⟩
    · obtain ⟨up, hup⟩ := Int.eq_ofNat_of_zero_le (show 0 ≤ par below by omega)
      have hu1 := hp.lt below hbl
      have hu2 := hp.gt below hbl (by omega)
      rw [hup] at hu1 hu2 ⊢
      obtain ⟨c0, c1, c2, c3, c4, c5, c6, c7⟩ := (HC.out up (by omega)).onw hb
      have cu := cell_onw hb (HTC.out up (by omega))
      have ztb := cell_lt cu
      obtain ⟨f', rfl⟩ : ∃ f', f = f' + 1 := ⟨f - 1, by omega⟩
      have step : Hid (loopUp (ndOf nm) par (f' + 1) below = (loopAt (ndOf nm) below up || loopUp (ndOf nm) par f' up)) := by
        show _ = _
        rw [loopUp, if_neg hneg, hup]; rfl
      clear hneg hup
      have hkn := HKN.out up (by omega)
      have hI := (ha.2.2.2 up (by show up < nn; omega)).2.onw hb
      have HLu := HL.out up (by omega)
      simp only at hI hkn
      have ex : ((nm up).kind == 6) = true ∧ 0 < (nm up).nk ∨ (((nm up).kind == 6) = false ∧ ((nm up).kind == 7) = true ∧ 0 < (nm up).nk) ∨ (((nm up).kind == 6) = false ∧ ((nm up).kind == 7) = false ∧ ((nm up).kind == 8) = true ∧ 0 < (nm up).nk) ∨ (((nm up).kind == 6) = false ∧ ((nm up).kind == 7) = false ∧ ((nm up).kind == 8) = false) := by
        simp only [beq_iff_eq, beq_eq_false_iff_ne, ne_eq]
        by_cases e6 : (nm up).kind = 6
        · exact .inl ⟨e6, HLu (.inl e6)⟩
        by_cases e7 : (nm up).kind = 7
        · exact .inr (.inl ⟨e6, e7, HLu (.inr (.inl e7))⟩)
        by_cases e8 : (nm up).kind = 8
        · exact .inr (.inr (.inl ⟨e6, e7, e8, HLu (.inr (.inr e8))⟩))
        exact .inr (.inr (.inr ⟨e6, e7, e8⟩))
      clear HLu
      rcases ex with ⟨e6, hpos⟩ | ⟨e6, e7, hpos⟩ | ⟨e6, e7, e8, hpos⟩ | ⟨e6, e7, e8⟩
      rotate_right
      · have fin : Hid (loopAt (ndOf nm) below up = false) := by show _ = _; unfold loopAt ndOf; simp only [e6, e7, e8]; rfl
        go_wp2_with fail
        go_roundw
        case rel => exact ⟨up, f', by omega, by omega, rfl, rfl, hb.trans (Onw.alloc _ _), B0.onw (Onw.alloc _ _), B1.onw (Onw.alloc _ _), by rw [HR.out, step.out, fin.out]; rfl⟩
        case measure => simp [intOf]; omega
      all_goals
        obtain ⟨kb, ko, hka, hkc⟩ := hI hpos
        have hlast := hkc ((nm up).nk - 1) (by omega)
        have hkb := cell_lt hlast
        have ez : ((nm up).kd ((nm up).nk - 1) == (below : Int)) = true ∨ ((nm up).kd ((nm up).nk - 1) == (below : Int)) = false := by cases ((nm up).kd ((nm up).nk - 1) == (below : Int)) <;> simp
        have fin : Hid (loopAt (ndOf nm) below up = ((nm up).kd ((nm up).nk - 1) == (below : Int))) := by show _ = _; unfold loopAt ndOf; simp_all
        clear hkc
        rcases ez with ez | ez
        · go_wp2_with fail
          go_ret
          exact ⟨ret_bool (by rw [HR.out, step.out, fin.out, ez]; rfl), hb.trans (Onw.alloc _ _)⟩
        · go_wp2_with fail
          go_roundw
          case rel => exact ⟨up, f', by omega, by omega, rfl, rfl, hb.trans (Onw.alloc _ _), B0.onw (Onw.alloc _ _), B1.onw (Onw.alloc _ _), by rw [HR.out, step.out, fin.out, ez]; rfl⟩
          case measure => simp [intOf]; omega
end Go.Proofs.YtnokgdgikdgaeaaGreat

namespace Go.Proofs.YtnokgdgikdgaeaaGreat
open Go.RowKit
attribute [local go_sem] run_store_float

set_option maxRecDepth 100000 in
set_option maxHeartbeats 4000000 in
theorem l3visible_any (m : FM) (ta da : Option Addr) (tc dc : Nat) (par : Nat → Int) (at_ : Nat) (v : Int) (w : World) (hat : at_ < m.nn) (hn : m.nn ≤ 1048576) (hkn : ∀ i, i < m.nn → (m.nm i).nr ≤ 1048576 ∧ (m.nm i).nk ≤ 1048576)
    (hp : ParOk par m.nn) (hks : ∀ i, i < m.nn → ∀ j, j < (m.nm i).nk → 0 ≤ (m.nm i).kd j ∧ (m.nm i).kd j < i) (ha : m.At w) (ht : IntsAt w ta m.nn par) :
    Calls Tryz.prog 53 #[.agg #[.string m.name, .int .i64 m.line, .int .i64 m.params, .bool m.rest, .slice m.va m.nv m.vc, .slice m.ua m.nu m.uc, .slice m.na m.nn m.nc], .agg #[.slice ta m.nn tc, .slice da m.nn dc], .int .i64 at_, .int .i64 v] w fun e w' => e = .returned (.bool (visB m.toFD par at_ v)) ∧ Onw w w' := by
  obtain ⟨tb, tof, rfl, htc⟩ := ht (by omega)
  obtain ⟨b, off, hna, hc⟩ := ha.2.2.1 (by omega)
  have HTC : Hid _ := htc
  have HC : Hid _ := hc
  have HKN : Hid _ := hkn
  have HKS : Hid _ := hks
  have c0 := htc at_ hat
  have htb := cell_lt c0
  clear htc hc hkn hks
  obtain ⟨name, line, params, rest, nv, vr, nu, ul, ui, nn, nm, va, vc, ua, uc, na, nc⟩ := m
  simp only at *
  subst hna
  by_cases hv : v < params
  · have fin : Hid (visB (FM.toFD ⟨name, line, params, rest, nv, vr, nu, ul, ui, nn, nm, va, vc, ua, uc, some ⟨b, off, none⟩, nc⟩) par at_ v = true) := by
      show _ = _
      unfold visB FM.toFD; simp [hv]
    go_enter Tryz.func53, Tryz.ntmps53
    go_wp2_with fail
    go_ret
    exact ⟨ret_bool fin.out.symm, (Onw.alloc _ _).trans (Onw.alloc _ _)⟩
  have fin : Hid (visB (FM.toFD ⟨name, line, params, rest, nv, vr, nu, ul, ui, nn, nm, va, vc, ua, uc, some ⟨b, off, none⟩, nc⟩) par at_ v = visUp (ndOf nm) par v nn at_) := by
    show _ = _
    unfold visB FM.toFD ndOf; simp [hv]
  go_enter Tryz.func53, Tryz.ntmps53
  go_wp2_with fail
  go_loopw [9, 10] (fun bl up wr => ∃ below f : Nat, below < nn ∧ nn ≤ f + below ∧ bl = .int .i64 below ∧ up = .int .i64 (par below) ∧ Onw w wr ∧
      Blk wr w.heap.size 61 #[.string name, .int .i64 line, .int .i64 params, .bool rest, .slice va nv vc, .slice ua nu uc, .slice (some ⟨b, off, none⟩) nn nc] ∧
      Blk wr (w.heap.size + 1) 67 #[.slice (some ⟨tb, tof, none⟩) nn tc, .slice da nn dc] ∧ visUp (ndOf nm) par v nn at_ = visUp (ndOf nm) par v f below)
    (fun bl _ _ => nn - (intOf bl).toNat)
  case atStart => exact ⟨at_, nn, hat, by omega, rfl, rfl, (Onw.alloc _ _).trans (Onw.alloc _ _), (Blk.new _ _ _).onw (Onw.alloc _ _), by have := Blk.new (w.alloc (Obj.cells #[.string name, .int .i64 line, .int .i64 params, .bool rest, .slice va nv vc, .slice ua nu uc, .slice (some ⟨b, off, none⟩) nn nc] 61)) 67 #[.slice (some ⟨tb, tof, none⟩) nn tc, .slice da nn dc]; simpa using this, rfl⟩
  case round =>
    rename World => wo
    obtain ⟨below, f, hbl, hf, rfl, rfl, hb, B0, B1, hr⟩ := hrel
    have HR : Hid _ := hr
    clear hr c0
    have b0 := B0.cell
    have b1 := B1.cell
    have z0 := B0.lt
    have z1 := B1.lt
    by_cases hneg : par below < 0
    · have fin2 : Hid (visUp (ndOf nm) par v f below = false) := by
        obtain ⟨f', rfl⟩ : ∃ f', f = f' + 1 := ⟨f - 1, by omega⟩
        show _ = _
        rw [visUp, if_pos hneg]
      go_wp2_with fail
      go_ret
      exact ⟨ret_bool (by rw [fin.out, HR.out, fin2.out]), hb⟩
    · obtain ⟨up, hup⟩ := Int.eq_ofNat_of_zero_le (show 0 ≤ par below by omega)
      have hu1 := hp.lt below hbl
      have hu2 := hp.gt below hbl (by omega)
      rw [hup] at hu1 hu2 ⊢
      obtain ⟨c0, c1, c2, c3, c4, c5, c6, c7⟩ := (HC.out up (by omega)).onw hb
      have cu := cell_onw hb (HTC.out up (by omega))
      have ztb := cell_lt cu
      obtain ⟨f', rfl⟩ : ∃ f', f = f' + 1 := ⟨f - 1, by omega⟩
      have step : Hid (visUp (ndOf nm) par v (f' + 1) below = (bringsB (ndOf nm) v below up || visUp (ndOf nm) par v f' up)) := by
        show _ = _
        rw [visUp, if_neg hneg, hup]; rfl
      clear hneg hup
      obtain ⟨hnr, hnk⟩ := HKN.out up (by omega)
      have hIw := (ha.2.2.2 up (by show up < nn; omega)).2
      have hI2 := (ha.2.2.2 up (by show up < nn; omega)).1.onw hb
      simp only at hIw hI2 hnr hnk
      obtain ⟨KA, hKA⟩ : ∃ KA, (nm up).ka = KA := ⟨_, rfl⟩
      rw [hKA] at c7 hIw
      have hI := hIw.onw hb
      clear hKA
      have pl := placeI_lt (nm up).kd below (nm up).nk 0
      have pg := placeI_ge (nm up).kd below (nm up).nk 0
      obtain ⟨P, hP⟩ : ∃ P, placeI (nm up).kd below 0 (nm up).nk = P := ⟨_, rfl⟩
      rw [hP] at pl pg
      have HP : Hid _ := hP
      clear hP
      go_wp2_with fail
      refine (l3place_any _ _ _ (nm up).kd _ _ hnk (by exact hI.onw (Onw.alloc _ _))).mono ?_
      rintro e w1 ⟨rfl, rfl⟩
      rw [HP.out]
      by_cases e1 : ((nm up).kind == 1) = true
      · have eC : ((nm up).kind == 7) = false ∧ ((nm up).kind == 8) = false ∧ ((nm up).kind == 12) = false := by
          have : (nm up).kind = 1 := by simpa using e1
          simp [this]
        obtain ⟨e7, e8, e12⟩ := eC
        have fb : Hid (bringsB (ndOf nm) v below up = anyB (letAt (ndOf nm) up v) 0 P.toNat) := by
          show _ = _
          unfold bringsB
          have h1 : ((ndOf nm up).kind == 1) = true := e1
          have h7 : ((ndOf nm up).kind == 7) = false := e7
          have h8 : ((ndOf nm up).kind == 8) = false := e8
          have h12 : ((ndOf nm up).kind == 12) = false := e12
          have hpp : placeI (ndOf nm up).kd below 0 (ndOf nm up).nk = P := HP.out
          rw [h1, h7, h8, h12, hpp]; simp
        go_wp2_with fail
        go_loopw [13] (fun i w2 => ∃ i' : Nat, i' ≤ P.toNat ∧ i = .int .i64 i' ∧ Onw w w2 ∧
            Blk w2 w.heap.size 61 #[.string name, .int .i64 line, .int .i64 params, .bool rest, .slice va nv vc, .slice ua nu uc, .slice (some ⟨b, off, none⟩) nn nc] ∧
            Blk w2 (w.heap.size + 1) 67 #[.slice (some ⟨tb, tof, none⟩) nn tc, .slice da nn dc] ∧
            Blk w2 wo.heap.size 71 #[.int .i64 (nm up).kind, .int .i64 (nm up).line, .int .i64 (nm up).op, .int .i64 (nm up).num, .float .f64 (nm up).flt, .string (nm up).str, .slice (nm up).ra (nm up).nr (nm up).rc, .slice KA (nm up).nk (nm up).kc] ∧
            anyB (letAt (ndOf nm) up v) 0 P.toNat = anyB (letAt (ndOf nm) up v) i' (P.toNat - i')) (fun i _ => P.toNat - (intOf i).toNat)
        case atStart => exact ⟨0, Nat.zero_le _, rfl, hb.trans (Onw.alloc _ _), B0.onw (Onw.alloc _ _), B1.onw (Onw.alloc _ _), Blk.new _ _ _, rfl⟩
        case round =>
          clear hI
          clear b0 b1 z0 z1 c0 c1 c2 c3 c4 c5 c6 c7 cu ztb B0 B1
          obtain ⟨i, hi, rfl, hb2, B0, B1, B2, hs⟩ := hrel
          have HS : Hid _ := hs
          clear hs
          have b0 := B0.cell
          have b1 := B1.cell
          have b2 := B2.cell
          have z0 := B0.lt
          have z1 := B1.lt
          have z2 := B2.lt
          by_cases hlt : i < P.toNat
          · obtain ⟨kb, ko, rfl, hkc⟩ := hIw.onw hb2 (by omega)
            have hki := hkc i (by omega)
            have zk := cell_lt hki
            obtain ⟨q0, q1⟩ := HKS.out up (by omega) i (by omega)
            obtain ⟨q, hq⟩ := Int.eq_ofNat_of_zero_le q0
            rw [hq] at hki q1
            have fs : Hid (anyB (letAt (ndOf nm) up v) i (P.toNat - i) = (((nm q).kind == 2 && declB (nm q).toND v) || anyB (letAt (ndOf nm) up v) (i + 1) (P.toNat - (i + 1)))) := by
              show _ = _
              rw [show P.toNat - i = (P.toNat - (i + 1)) + 1 from by omega, anyB]
              have : letAt (ndOf nm) up v i = ((nm q).kind == 2 && declB (nm q).toND v) := by
                unfold letAt ndOf; rw [hq]; rfl
              rw [this]
            clear hkc hq q0
            obtain ⟨d0, d1, d2, d3, d4, d5, d6, d7⟩ := (HC.out q (by omega)).onw hb2
            have zb := cell_lt d0
            obtain ⟨hnr2, hnk2⟩ := HKN.out q (by omega)
            have hI3 := (ha.2.2.2 q (by show q < nn; omega)).1.onw hb2
            simp only at hI3 hnr2 hnk2
            have qi : (q : Int) < (nn : Int) := by omega
            have ii : (i : Int) < ((nm up).nk : Int) := by omega
            go_wp2_with fail
            go_cut [14] (fun kp wc => kp = .pointer (some ⟨wr.heap.size, 0, none⟩) ∧ wc = (wr.alloc (Obj.cells #[.int .i64 (nm q).kind, .int .i64 (nm q).line, .int .i64 (nm q).op, .int .i64 (nm q).num, .float .f64 (nm q).flt, .string (nm q).str, .slice (nm q).ra (nm q).nr (nm q).rc, .slice (nm q).ka (nm q).nk (nm q).kc] 71)).drew)
            case first =>
              go_region
              all_goals (go_wp2; go_meet)
              all_goals exact ⟨rfl, rfl⟩
            case rest =>
              obtain ⟨rfl, rfl⟩ := hcut
              clear d0 d1 d2 d3 d4 d5 d6 d7 hki
              have eK : ((nm q).kind == 2) = true ∨ ((nm q).kind == 2) = false := by cases ((nm q).kind == 2) <;> simp
              rcases eK with eK | eK
              · go_wp2_with fail
                refine (l3declares_any (nm q) _ _ hnr2 (by exact hI3.onw (Below.drew (Onw.alloc _ _)))).mono ?_
                rintro e w1 ⟨rfl, rfl⟩
                cases hx : declB (nm q).toND v
                · go_wp2_with fail
                  go_roundw
                  case rel => exact ⟨i + 1, by omega, by go_num, hb2.trans (Below.drew ((Onw.alloc _ _).trans (Onw.alloc _ _))), B0.onw (Below.drew ((Onw.alloc _ _).trans (Onw.alloc _ _))), B1.onw (Below.drew ((Onw.alloc _ _).trans (Onw.alloc _ _))), B2.onw (Below.drew ((Onw.alloc _ _).trans (Onw.alloc _ _))), by rw [HS.out, fs.out, eK, hx]; rfl⟩
                  case measure => simp [intOf]; omega
                · go_wp2_with fail
                  go_ret
                  exact ⟨ret_bool (by rw [fin.out, HR.out, step.out, fb.out, HS.out, fs.out, eK, hx]; rfl), hb2.trans (Below.drew ((Onw.alloc _ _).trans (Onw.alloc _ _)))⟩
              · go_wp2_with fail
                go_roundw
                case rel => exact ⟨i + 1, by omega, by go_num, hb2.trans (Below.drew (Onw.alloc _ _)), B0.onw (Below.drew (Onw.alloc _ _)), B1.onw (Below.drew (Onw.alloc _ _)), B2.onw (Below.drew (Onw.alloc _ _)), by rw [HS.out, fs.out, eK]; rfl⟩
                case measure => simp [intOf]; omega
          · have cu := cell_onw hb2 (HTC.out up (by omega))
            have ztb := cell_lt cu
            have fs : Hid (anyB (letAt (ndOf nm) up v) i (P.toNat - i) = false) := by
              show _ = _
              rw [show P.toNat - i = 0 from by omega]; rfl
            go_wp2_with fail
            go_roundw
            case rel => exact ⟨up, f', by omega, by omega, rfl, rfl, hb2, B0, B1, by rw [HR.out, step.out, fb.out, HS.out, fs.out]; rfl⟩
            case measure => simp [intOf]; omega
      · have e1' : ((nm up).kind == 1) = false := by simpa using e1
        clear e1
        by_cases eL : ((nm up).kind == 7 || (nm up).kind == 8 || (nm up).kind == 12) = true
        · have fb : Hid (bringsB (ndOf nm) v below up = ((P == ((nm up).nk : Int) - 1) && declB (nm up).toND v)) := by
            show _ = _
            unfold bringsB ndOf; rw [e1', eL, HP.out]; rfl
          have eP : (P == ((nm up).nk : Int) - 1) = true ∨ (P == ((nm up).nk : Int) - 1) = false := by cases (P == ((nm up).nk : Int) - 1) <;> simp
          have eC : ((nm up).kind == 7) = true ∨ (((nm up).kind == 7) = false ∧ ((nm up).kind == 8) = true) ∨ (((nm up).kind == 7) = false ∧ ((nm up).kind == 8) = false ∧ ((nm up).kind == 12) = true) := by
            revert eL; cases ((nm up).kind == 7) <;> cases ((nm up).kind == 8) <;> cases ((nm up).kind == 12) <;> simp
          clear eL
          rcases eP with eP | eP
          · rcases eC with e7 | ⟨e7, e8⟩ | ⟨e7, e8, e12⟩
            all_goals
              go_wp2_with fail
              refine (l3declares_any ⟨(nm up).toND, (nm up).ra, (nm up).rc, KA, (nm up).kc⟩ _ _ hnr (by exact hI2.onw (Onw.alloc _ _))).mono ?_
              rintro e w1 ⟨rfl, rfl⟩
              cases hx : declB (nm up).toND v
              · go_wp2_with fail
                go_roundw
                case rel => exact ⟨up, f', by omega, by omega, rfl, rfl, hb.trans ((Onw.alloc _ _).trans (Onw.alloc _ _)), B0.onw ((Onw.alloc _ _).trans (Onw.alloc _ _)), B1.onw ((Onw.alloc _ _).trans (Onw.alloc _ _)), by rw [HR.out, step.out, fb.out, eP, hx]; rfl⟩
                case measure => simp [intOf]; omega
              · go_wp2_with fail
                go_ret
                exact ⟨ret_bool (by rw [fin.out, HR.out, step.out, fb.out, eP, hx]; rfl), hb.trans ((Onw.alloc _ _).trans (Onw.alloc _ _))⟩
          · rcases eC with e7 | ⟨e7, e8⟩ | ⟨e7, e8, e12⟩
            all_goals
              go_wp2_with fail
              go_roundw
              case rel => exact ⟨up, f', by omega, by omega, rfl, rfl, hb.trans (Onw.alloc _ _), B0.onw (Onw.alloc _ _), B1.onw (Onw.alloc _ _), by rw [HR.out, step.out, fb.out, eP]; rfl⟩
              case measure => simp [intOf]; omega
        · have eL' : ((nm up).kind == 7 || (nm up).kind == 8 || (nm up).kind == 12) = false := by simpa using eL
          have fb : Hid (bringsB (ndOf nm) v below up = false) := by
            show _ = _
            unfold bringsB ndOf; rw [e1', eL']; rfl
          have eC : ((nm up).kind == 7) = false ∧ ((nm up).kind == 8) = false ∧ ((nm up).kind == 12) = false := by
            revert eL'; cases ((nm up).kind == 7) <;> cases ((nm up).kind == 8) <;> cases ((nm up).kind == 12) <;> simp
          clear eL eL'
          obtain ⟨e7, e8, e12⟩ := eC
          go_wp2_with fail
          go_roundw
          case rel => exact ⟨up, f', by omega, by omega, rfl, rfl, hb.trans (Onw.alloc _ _), B0.onw (Onw.alloc _ _), B1.onw (Onw.alloc _ _), by rw [HR.out, step.out, fb.out]; rfl⟩
          case measure => simp [intOf]; omega
end Go.Proofs.YtnokgdgikdgaeaaGreat

namespace Go.Proofs.YtnokgdgikdgaeaaGreat
open Go.RowKit
attribute [local go_sem] run_store_float

set_option maxRecDepth 100000 in
set_option maxHeartbeats 2000000 in
theorem l3head_any (u : UM) (f : Nat) (w : World) (hf : f < u.nf) (hn : u.nf ≤ 1048576) (hs : (u.fm f).Small) (ha : u.At w) :
    Calls Tryz.prog 31 #[.agg #[.slice u.fa u.nf u.fc], .int .i64 f] w fun e w' => e = .returned (.bool (headB (u.fm f).toFD f)) ∧ Onw w w' := by
  obtain ⟨b, off, hfa, hc⟩ := ha.1 (by omega)
  obtain ⟨c0, c1, c2, c3, c4, c5, c6⟩ := hc f hf
  have zb := cell_lt c0
  have aV := (ha.2 f hf).1
  clear hc
  rw [hfa]
  clear ha hfa
  obtain ⟨s1, s2, s3, s4⟩ := hs
  clear s4
  generalize u.fm f = m at *
  obtain ⟨name, line, params, rest, nv, vr, nu, ul, ui, nn, nm, va, vc, ua, uc, na, nc⟩ := m
  simp only at *
  have zf : ((f : Int) == 0) = true ∨ ((f : Int) == 0) = false := by cases ((f : Int) == 0) <;> simp
  by_cases h1 : nn = 0
  · have e1 : ((nn : Int) == 0) = true := by simp [h1]
    have fin : Hid (headB (FM.toFD ⟨name, line, params, rest, nv, vr, nu, ul, ui, nn, nm, va, vc, ua, uc, na, nc⟩) f = false) := by
      show _ = _
      simp [headB, headA, FM.toFD, h1]
    clear h1
    go_enter Tryz.func31, Tryz.ntmps31
    go_wp2_with fail
    go_ret
    exact ⟨ret_bool fin.out.symm, (Onw.alloc _ _).trans (Onw.alloc _ _)⟩
  have e1 : ((nn : Int) == 0) = false := by simp [h1]
  by_cases h2 : nv ≤ 200 ∧ nu ≤ 200 ∧ 0 ≤ params ∧ params ≤ nv
  · obtain ⟨h2, h3, h4, h5⟩ := h2
    have fA : Hid (headA (FM.toFD ⟨name, line, params, rest, nv, vr, nu, ul, ui, nn, nm, va, vc, ua, uc, na, nc⟩) = true) := by
      show (decide (0 < nn) && decide (nv ≤ 200) && decide (nu ≤ 200) && decide (0 ≤ params) && decide (params ≤ nv)) = true
      simp; omega
    by_cases hC : headC (FM.toFD ⟨name, line, params, rest, nv, vr, nu, ul, ui, nn, nm, va, vc, ua, uc, na, nc⟩) f = true
    · have HCC : Hid _ := hC
      have hC' : 0 ≤ line ∧ line ≤ 100000 ∧ nameB name 0 = true ∧ (((f : Int) == 0) = true → params ≤ 0 ∧ nu = 0) := by
        have hC : (decide (0 ≤ line) && decide (line ≤ 100000) && nameB name 0 && (!((f : Int) == 0) || (decide (params ≤ 0) && decide (nu = 0)))) = true := hC
        simp only [Bool.and_eq_true, decide_eq_true_eq, Bool.or_eq_true] at hC
        obtain ⟨⟨⟨q1, q2⟩, q3⟩, q4⟩ := hC
        refine ⟨q1, q2, q3, fun hz => ?_⟩
        rcases q4 with q4 | q4
        · rw [hz] at q4; simp at q4
        · exact q4
      obtain ⟨l1, l2, l3, l4⟩ := hC'
      clear hC
      have fin : Hid (headB (FM.toFD ⟨name, line, params, rest, nv, vr, nu, ul, ui, nn, nm, va, vc, ua, uc, na, nc⟩) f = allB (fun i => nameB (vr i) 1) 0 nv) := by
        show _ = _
        rw [headB, fA.out, HCC.out]; rfl
      have nz : (((f : Int) == 0) = true ∧ params ≤ 0 ∧ nu = 0) ∨ ((f : Int) == 0) = false := by
        rcases zf with zf | zf
        · exact .inl ⟨zf, l4 zf⟩
        · exact .inr zf
      clear l4 zf HCC fA h1
      have nu0 : (((f : Int) == 0) = true ∧ params ≤ 0 ∧ nu ≤ 0) ∨ ((f : Int) == 0) = false := by
        rcases nz with ⟨q1, q2, q3⟩ | q
        · exact .inl ⟨q1, q2, by omega⟩
        · exact .inr q
      clear nz
      have t1 : decide ((200 : Int) < (nv : Int)) = false := by simp; omega
      have t2 : decide ((200 : Int) < (nu : Int)) = false := by simp; omega
      have t3 : decide (params < 0) = false := by simp; omega
      have t4 : decide ((nv : Int) < params) = false := by simp; omega
      have t5 : decide (line < 0) = false := by simp; omega
      have t6 : decide (100000 < line) = false := by simp; omega
      have nu1 : (((f : Int) == 0) = true ∧ decide (0 < params) = false ∧ decide (0 < nu) = false) ∨ ((f : Int) == 0) = false := by
        rcases nu0 with ⟨q1, q2, q3⟩ | q
        · exact .inl ⟨q1, by simp; omega, by simp; omega⟩
        · exact .inr q
      clear h2 h3 h4 h5 l1 l2 nu0
      rcases nu1 with ⟨zf, t7, t8⟩ | zf
      all_goals
        go_enter Tryz.func31, Tryz.ntmps31
        go_wp2_with fail
        refine (l3name_any _ _ _).mono ?_
        rintro e w1 ⟨rfl, rfl⟩
        go_wp2_with fail
        go_loop [74] (fun i => ∃ k : Nat, k ≤ nv ∧ i = .int .i64 k ∧ allB (fun i => nameB (vr i) 1) 0 nv = allB (fun i => nameB (vr i) 1) k (nv - k)) (fun i => nv - (intOf i).toNat)
        case atStart => exact ⟨0, Nat.zero_le _, rfl, rfl⟩
        case round =>
          obtain ⟨k, hk, rfl, hr⟩ := hrel
          have HR : Hid _ := hr
          clear hr
          by_cases hlt : k < nv
          · obtain ⟨vb, vo, rfl, hvc⟩ := aV (by omega)
            have hvk := hvc k hlt
            have zv := cell_lt hvk
            clear hvc
            have hst : Hid (allB (fun i => nameB (vr i) 1) k (nv - k) = (nameB (vr k) 1 && allB (fun i => nameB (vr i) 1) (k + 1) (nv - (k + 1)))) := by
              show _ = _
              rw [show nv - k = (nv - (k + 1)) + 1 from by omega]; rfl
            go_wp2_with fail
            refine (l3name_any _ _ _).mono ?_
            rintro e w1 ⟨rfl, rfl⟩
            cases hx : nameB (vr k) 1
            · go_wp2_with fail
              go_ret
              exact ⟨ret_bool (by rw [fin.out, HR.out, hst.out, hx]; rfl), (Onw.alloc _ _).trans (Onw.alloc _ _)⟩
            · go_wp2_with fail
              go_round
              case rel => exact ⟨k + 1, by omega, by go_num, by rw [HR.out, hst.out, hx]; rfl⟩
              case measure => simp [intOf]; omega
          · have hst : Hid (allB (fun i => nameB (vr i) 1) k (nv - k) = true) := by
              show _ = _
              rw [show nv - k = 0 from by omega]; rfl
            go_wp2_with fail
            go_ret
            exact ⟨ret_bool (by rw [fin.out, HR.out, hst.out]), (Onw.alloc _ _).trans (Onw.alloc _ _)⟩
    · have hC' : headC (FM.toFD ⟨name, line, params, rest, nv, vr, nu, ul, ui, nn, nm, va, vc, ua, uc, na, nc⟩) f = false := by simpa using hC
      have fin : Hid (headB (FM.toFD ⟨name, line, params, rest, nv, vr, nu, ul, ui, nn, nm, va, vc, ua, uc, na, nc⟩) f = false) := by
        show _ = _
        rw [headB, fA.out, hC']; rfl
      have cs : line < 0 ∨ 100000 < line ∨ (0 ≤ line ∧ line ≤ 100000 ∧ nameB name 0 = false) ∨ (0 ≤ line ∧ line ≤ 100000 ∧ nameB name 0 = true ∧ ((f : Int) == 0) = true ∧ (0 < params ∨ (params ≤ 0 ∧ 0 < nu))) := by
        by_cases q1 : line < 0
        · exact .inl q1
        by_cases q2 : 100000 < line
        · exact .inr (.inl q2)
        cases q3 : nameB name 0
        · exact .inr (.inr (.inl ⟨by omega, by omega, rfl⟩))
        refine .inr (.inr (.inr ⟨by omega, by omega, rfl, ?_⟩))
        rcases zf with zf | zf
        · refine ⟨zf, ?_⟩
          by_cases q5 : 0 < params
          · exact .inl q5
          refine .inr ⟨by omega, ?_⟩
          apply Nat.pos_of_ne_zero
          intro q6
          apply hC
          show (decide (0 ≤ line) && decide (line ≤ 100000) && nameB name 0 && (!((f : Int) == 0) || (decide (params ≤ 0) && decide (nu = 0)))) = true
          simp [q3, q6]; omega
        · exfalso; apply hC
          show (decide (0 ≤ line) && decide (line ≤ 100000) && nameB name 0 && (!((f : Int) == 0) || (decide (params ≤ 0) && decide (nu = 0)))) = true
          simp only [q3, zf, Bool.not_false, Bool.true_or, Bool.and_true, Bool.and_eq_true, decide_eq_true_eq]; omega
      clear hC hC' zf h1 fA
      rcases cs with l1 | l1 | ⟨l1, l2, l3⟩ | ⟨l1, l2, l3, zf, (p0 | ⟨p0, n0⟩)⟩
      · go_enter Tryz.func31, Tryz.ntmps31
        go_wp2_with fail
        go_ret
        exact ⟨ret_bool fin.out.symm, (Onw.alloc _ _).trans (Onw.alloc _ _)⟩
      · go_enter Tryz.func31, Tryz.ntmps31
        go_wp2_with fail
        go_ret
        exact ⟨ret_bool fin.out.symm, (Onw.alloc _ _).trans (Onw.alloc _ _)⟩
      all_goals
        go_enter Tryz.func31, Tryz.ntmps31
        go_wp2_with fail
        refine (l3name_any _ _ _).mono ?_
        rintro e w1 ⟨rfl, rfl⟩
        go_wp2_with fail
        go_ret
        exact ⟨ret_bool fin.out.symm, (Onw.alloc _ _).trans (Onw.alloc _ _)⟩
  · have fin : Hid (headB (FM.toFD ⟨name, line, params, rest, nv, vr, nu, ul, ui, nn, nm, va, vc, ua, uc, na, nc⟩) f = false) := by
      show _ = _
      have : headA (FM.toFD ⟨name, line, params, rest, nv, vr, nu, ul, ui, nn, nm, va, vc, ua, uc, na, nc⟩) = false := by
        rw [← Bool.not_eq_true]
        intro q
        apply h2
        have q : (decide (0 < nn) && decide (nv ≤ 200) && decide (nu ≤ 200) && decide (0 ≤ params) && decide (params ≤ nv)) = true := q
        simp at q; omega
      rw [headB, this]; rfl
    have cs : 200 < nv ∨ (nv ≤ 200 ∧ 200 < nu) ∨ (nv ≤ 200 ∧ nu ≤ 200 ∧ params < 0) ∨ (nv ≤ 200 ∧ nu ≤ 200 ∧ 0 ≤ params ∧ nv < params) := by omega
    clear h2 zf h1
    rcases cs with q1 | ⟨q1, q2⟩ | ⟨q1, q2, q3⟩ | ⟨q1, q2, q3, q4⟩
    all_goals
      go_enter Tryz.func31, Tryz.ntmps31
      go_wp2_with fail
      go_ret
      exact ⟨ret_bool fin.out.symm, (Onw.alloc _ _).trans (Onw.alloc _ _)⟩
end Go.Proofs.YtnokgdgikdgaeaaGreat

namespace Go.Proofs.YtnokgdgikdgaeaaGreat
open Go.RowKit
attribute [local go_sem] run_store_float

theorem ret_flt {o : Option Flt} {x : Flt} (h : o = some x) : Ending.returned (.agg #[.int .i64 x.code, .int .i64 x.fn, .int .i64 x.node]) = .returned (fval o) := by rw [h]; rfl
theorem ret_none {o : Option Flt} (h : o = none) : Ending.returned (.agg #[.int .i64 0, .int .i64 0, .int .i64 0]) = .returned (fval o) := by rw [h]; rfl

/-- The unit's box and the result's, of a function of a unit. -/
structure UBox (w wr : World) (fa : Option Addr) (nf fc : Nat) : Prop where
  onw : Onw w wr
  b0 : Blk wr w.heap.size 31 #[.slice fa nf fc]
  b1 : Blk wr (w.heap.size + 1) 27 #[.int .i64 0, .int .i64 0, .int .i64 0]
theorem UBox.go {w wr w' : World} {fa : Option Addr} {nf fc : Nat} (U : UBox w wr fa nf fc) (h : Onw wr w') : UBox w w' fa nf fc := ⟨U.onw.trans h, U.b0.onw h, U.b1.onw h⟩
theorem UBox.new (w : World) (fa : Option Addr) (nf fc : Nat) : UBox w ((w.alloc (Obj.cells #[.slice fa nf fc] 31)).alloc (Obj.cells #[.int .i64 0, .int .i64 0, .int .i64 0] 27)) fa nf fc :=
  ⟨(Onw.alloc _ _).trans (Onw.alloc _ _), (Blk.new _ _ _).onw (Onw.alloc _ _), by have := Blk.new (w.alloc (Obj.cells #[.slice fa nf fc] 31)) 27 #[.int .i64 0, .int .i64 0, .int .i64 0]; simpa using this⟩

set_option maxRecDepth 100000 in
set_option maxHeartbeats 2000000 in
theorem l3first_any (u : UM) (w : World) (hn : u.nf ≤ 1048576) (hs : ∀ i, i < u.nf → (u.fm i).Small) (hsum : sumTo (fun i => (u.fm i).nn) u.nf ≤ 1048576) (ha : u.At w) :
    Calls Tryz.prog 11 #[.agg #[.slice u.fa u.nf u.fc]] w fun e w' => e = .returned (fval (firstB u.toUD)) ∧ Onw w w' := by
  obtain ⟨nf, fm, fa, fc⟩ := u
  simp only at *
  have HS : Hid _ := hs
  have hmono : ∀ k, k ≤ nf → sumTo (fun i => (fm i).nn) k ≤ sumTo (fun i => (fm i).nn) nf := fun k hk => sumTo_mono _ k nf hk
  have HM : Hid _ := hmono
  clear hs hmono
  go_enter Tryz.func11, Tryz.ntmps11
  go_wp2_with fail
  go_loopw [3, 12] (fun t i wr => ∃ k : Nat, k ≤ nf ∧ i = .int .i64 k ∧ t = .int .i64 (sumTo (fun i => (fm i).nn) k : Nat) ∧ UBox w wr fa nf fc) (fun _ i _ => nf - (intOf i).toNat)
  case atStart => exact ⟨0, Nat.zero_le _, rfl, rfl, UBox.new _ _ _ _⟩
  case round =>
    obtain ⟨k, hk, rfl, rfl, U⟩ := hrel
    by_cases hlt : k < nf
    · obtain ⟨b, off, rfl, hc⟩ := FnsAt.onw U.onw ha |>.1 (by show 0 < nf; omega)
      obtain ⟨c0, c1, c2, c3, c4, c5, c6⟩ := hc k hlt
      have m1 := HM.out (k + 1) (by omega)
      have st : Hid (sumTo (fun i => (fm i).nn) (k + 1) = sumTo (fun i => (fm i).nn) k + (fm k).nn) := rfl
      rw [st.out] at m1
      clear hc
      go_wp2_with fail
      go_roundw
      case rel => exact ⟨k + 1, by omega, by go_num, by rw [st.out]; go_num, U.go (Onw.alloc _ _)⟩
      case measure => simp [intOf]; omega
    · have : k = nf := by omega
      subst this
      have bx := U.b0.cell
      have bq := U.b1.cell
      have bf := U.b1.free
      have z1 := U.b1.lt
      by_cases hsz : sizeBad (UM.toUD ⟨k, fm, fa, fc⟩) = true
      · have cs : ((k : Int) == 0) = true ∨ (((k : Int) == 0) = false ∧ 300 < k) ∨ (((k : Int) == 0) = false ∧ k ≤ 300 ∧ (3000 : Int) < ((sumTo (fun i => (fm i).nn) k : Nat) : Int)) := by
          have q : ((k : Int) == 0 || decide ((300 : Int) < k) || decide (3000 < ((sumTo (fun i => (fm i).nn) k : Nat) : Int))) = true := hsz
          cases e0 : ((k : Int) == 0)
          · rw [e0] at q
            simp only [Bool.false_or, Bool.or_eq_true, decide_eq_true_eq] at q
            by_cases h3 : 300 < k
            · exact .inr (.inl ⟨rfl, h3⟩)
            · exact .inr (.inr ⟨rfl, by omega, by omega⟩)
          · exact .inl rfl
        have fin : Hid (firstB (UM.toUD ⟨k, fm, fa, fc⟩) = some ⟨1, 0, 0⟩) := by
          show _ = _
          rw [firstB, hsz]; rfl
        clear hsz hlt
        rcases cs with e0 | ⟨e0, h3⟩ | ⟨e0, h3, h4⟩
        all_goals
          go_wp2_with fail
          refine (l3fault_any _ _ _ _).mono ?_
          rintro e w1 ⟨rfl, hb1⟩
          have U1 := U.go hb1
          clear bx bq bf z1
          have bq := U1.b1.cell
          have bf := U1.b1.free
          go_wp2_with fail
          exact bodyPost_ret (v := .agg #[.int .i64 1, .int .i64 0, .int .i64 0]) (by simp [results, Tryz.results11, go_sem, bq]) rfl ⟨ret_flt fin.out, below_set (below_set (below_set U1.onw (by omega) _) (by omega) _) (by omega) _⟩
      · have q : ((k : Int) == 0 || decide ((300 : Int) < k) || decide (3000 < ((sumTo (fun i => (fm i).nn) k : Nat) : Int))) = false := Bool.eq_false_iff.2 hsz
        have hsz' : sizeBad (UM.toUD ⟨k, fm, fa, fc⟩) = false := q
        simp only [Bool.or_eq_false_iff] at q
        obtain ⟨⟨t1, t2⟩, t3⟩ := q
        have fin : Hid (firstB (UM.toUD ⟨k, fm, fa, fc⟩) = match fltOf 2 (headsBad (UM.toUD ⟨k, fm, fa, fc⟩)) with | some x => some x | none => fltOf 3 (shapesBad (UM.toUD ⟨k, fm, fa, fc⟩))) := by
          show _ = _
          rw [firstB, hsz']; rfl
        clear hsz hsz' hlt
        go_wp2_with fail
        clear bx bq bf z1
        go_loopw [40] (fun i wr => ∃ j : Nat, j ≤ k ∧ i = .int .i64 j ∧ UBox w wr fa k fc ∧ headsBad (UM.toUD ⟨k, fm, fa, fc⟩) = findF (fun f => if headB (fm f).toFD f then none else some 0) j (k - j)) (fun i _ => k - (intOf i).toNat)
        case atStart => exact ⟨0, Nat.zero_le _, rfl, U, rfl⟩
        case round =>
          clear U
          obtain ⟨j, hj, rfl, U, hr⟩ := hrel
          have HR : Hid _ := hr
          clear hr
          have bx := U.b0.cell
          by_cases hlt : j < k
          · have st : Hid (findF (fun f => if headB (fm f).toFD f then none else some 0) j (k - j) = match (if headB (fm j).toFD j then none else some 0) with | some n => some (j, n) | none => findF (fun f => if headB (fm f).toFD f then none else some 0) (j + 1) (k - (j + 1))) := by
              show _ = _
              rw [show k - j = (k - (j + 1)) + 1 from by omega]; rfl
            go_wp2_with fail
            refine (l3head_any ⟨k, fm, fa, fc⟩ j _ hlt hn (HS.out j hlt) (by exact FnsAt.onw U.onw ha)).mono ?_
            rintro e w1 ⟨rfl, hb1⟩
            have U1 := U.go hb1
            clear bx
            cases hx : headB (fm j).toFD j
            · go_wp2_with fail
              refine (l3fault_any _ _ _ _).mono ?_
              rintro e w2 ⟨rfl, hb2⟩
              have U2 := U1.go hb2
              have bq := U2.b1.cell
              have bf := U2.b1.free
              go_wp2_with fail
              exact bodyPost_ret (v := .agg #[.int .i64 2, .int .i64 j, .int .i64 0]) (by simp [results, Tryz.results11, go_sem, bq]) rfl ⟨ret_flt (x := ⟨2, j, 0⟩) (by rw [fin.out, HR.out, st.out, hx]; rfl), below_set (below_set (below_set U2.onw (by omega) _) (by omega) _) (by omega) _⟩
            · go_wp2_with fail
              go_roundw
              case rel => exact ⟨j + 1, by omega, by go_num, U1, by rw [HR.out, st.out, hx]; rfl⟩
              case measure => simp [intOf]; omega
          · have st : Hid (findF (fun f => if headB (fm f).toFD f then none else some 0) j (k - j) = none) := by
              show _ = _
              rw [show k - j = 0 from by omega]; rfl
            have fin2 : Hid (firstB (UM.toUD ⟨k, fm, fa, fc⟩) = fltOf 3 (shapesBad (UM.toUD ⟨k, fm, fa, fc⟩))) := by
              show _ = _
              rw [fin.out, HR.out, st.out]; rfl
            clear fin HR st
            go_wp2_with fail
            clear bx
            go_loopw [53] (fun i wr => ∃ f : Nat, f ≤ k ∧ i = .int .i64 f ∧ UBox w wr fa k fc ∧ shapesBad (UM.toUD ⟨k, fm, fa, fc⟩) = findF (fun f => findN (fun n => !shapeB (ndOf (fm f).nm) n) 0 (fm f).nn) f (k - f)) (fun i _ => k - (intOf i).toNat)
            case atStart => exact ⟨0, Nat.zero_le _, rfl, U, rfl⟩
            case round =>
              clear U hlt
              obtain ⟨f, hf, rfl, U, hr⟩ := hrel
              have HR : Hid _ := hr
              clear hr
              have bx := U.b0.cell
              by_cases hlt : f < k
              · obtain ⟨b, off, rfl, hc⟩ := FnsAt.onw U.onw ha |>.1 (by show 0 < k; omega)
                have c6 := (hc f hlt).c6
                obtain ⟨s1, s2, s3, s4⟩ := HS.out f hlt
                have HS4 : Hid _ := s4
                have st : Hid (findF (fun f => findN (fun n => !shapeB (ndOf (fm f).nm) n) 0 (fm f).nn) f (k - f) = match findN (fun n => !shapeB (ndOf (fm f).nm) n) 0 (fm f).nn with | some n => some (f, n) | none => findF (fun f => findN (fun n => !shapeB (ndOf (fm f).nm) n) 0 (fm f).nn) (f + 1) (k - (f + 1))) := by
                  show _ = _
                  rw [show k - f = (k - (f + 1)) + 1 from by omega]; rfl
                have aN := (ha.2 f hlt).2.2
                simp only at aN
                clear hc s4 s1 s2
                go_wp2_with fail
                clear bx c6
                go_loopw [63] (fun i wr => ∃ n : Nat, n ≤ (fm f).nn ∧ i = .int .i64 n ∧ UBox w wr (some ⟨b, off, none⟩) k fc ∧ findN (fun n => !shapeB (ndOf (fm f).nm) n) 0 (fm f).nn = findN (fun n => !shapeB (ndOf (fm f).nm) n) n ((fm f).nn - n)) (fun i _ => (fm f).nn - (intOf i).toNat)
                case atStart => exact ⟨0, Nat.zero_le _, rfl, U, rfl⟩
                case round =>
                  clear U
                  obtain ⟨n, hnn, rfl, U, hq⟩ := hrel
                  have HQ : Hid _ := hq
                  clear hq
                  have bx := U.b0.cell
                  by_cases hnt : n < (fm f).nn
                  · obtain ⟨b', off', he, hc⟩ := FnsAt.onw U.onw ha |>.1 (by show 0 < k; omega)
                    simp only [Option.some.injEq, Addr.mk.injEq, and_true] at he
                    obtain ⟨rfl, rfl⟩ := he
                    have c6 := (hc f hlt).c6
                    clear hc
                    have sn : Hid (findN (fun n => !shapeB (ndOf (fm f).nm) n) n ((fm f).nn - n) = if (!shapeB (ndOf (fm f).nm) n) = true then some n else findN (fun n => !shapeB (ndOf (fm f).nm) n) (n + 1) ((fm f).nn - (n + 1))) := by
                      show _ = _
                      rw [show (fm f).nn - n = ((fm f).nn - (n + 1)) + 1 from by omega]; rfl
                    go_wp2_with fail
                    refine (l3shape_any _ _ _ (fm f).nm n _ hnt s3 (HS4.out n hnt).2 (by exact aN.onw U.onw)).mono ?_
                    rintro e w1 ⟨rfl, hb1⟩
                    have U1 := U.go hb1
                    clear bx c6
                    cases hx : shapeB (ndOf (fm f).nm) n
                    · go_wp2_with fail
                      refine (l3fault_any _ _ _ _).mono ?_
                      rintro e w2 ⟨rfl, hb2⟩
                      have U2 := U1.go hb2
                      have bq := U2.b1.cell
                      have bf := U2.b1.free
                      go_wp2_with fail
                      exact bodyPost_ret (v := .agg #[.int .i64 3, .int .i64 f, .int .i64 n]) (by simp [results, Tryz.results11, go_sem, bq]) rfl ⟨ret_flt (x := ⟨3, f, n⟩) (by rw [fin2.out, HR.out, st.out, HQ.out, sn.out, hx]; rfl), below_set (below_set (below_set U2.onw (by omega) _) (by omega) _) (by omega) _⟩
                    · go_wp2_with fail
                      go_roundw
                      case rel => exact ⟨n + 1, by omega, by go_num, U1, by rw [HQ.out, sn.out, hx]; rfl⟩
                      case measure => simp [intOf]; omega
                  · have sn : Hid (findN (fun n => !shapeB (ndOf (fm f).nm) n) n ((fm f).nn - n) = none) := by
                      show _ = _
                      rw [show (fm f).nn - n = 0 from by omega]; rfl
                    go_wp2_with fail
                    go_roundw
                    case rel => exact ⟨f + 1, by omega, by go_num, U, by rw [HR.out, st.out, HQ.out, sn.out]⟩
                    case measure => simp [intOf]; omega
              · have st : Hid (findF (fun f => findN (fun n => !shapeB (ndOf (fm f).nm) n) 0 (fm f).nn) f (k - f) = none) := by
                  show _ = _
                  rw [show k - f = 0 from by omega]; rfl
                have bq := U.b1.cell
                have bf := U.b1.free
                go_wp2_with fail
                exact bodyPost_ret (v := .agg #[.int .i64 0, .int .i64 0, .int .i64 0]) (by simp [results, Tryz.results11, go_sem, bq]) rfl ⟨ret_none (by rw [fin2.out, HR.out, st.out]; rfl), below_set (below_set (below_set U.onw (by omega) _) (by omega) _) (by omega) _⟩
end Go.Proofs.YtnokgdgikdgaeaaGreat
