import Derived.Test.YtjebijnndfkinaaGreatP11
import Derived.Test.YtjebijnndfkinaaGreatP12
namespace Go.Proofs.YtjebijnndfkinaaGreat
open Go.RowKit
attribute [local go_sem] run_store_float

theorem letS_step (nv : Nat) (nd : Nat → ND) (p j x : Nat) : letS nv nd p (j + 1) x = letS nv nd p j x + (if (nd ((nd p).kd j).toNat).kind = 2 then cntV nv (nd ((nd p).kd j).toNat).rf (nd ((nd p).kd j).toNat).nr x else 0) := rfl
theorem letS_le (nv : Nat) (nd : Nat → ND) (p : Nat) (hr : ∀ j, j < (nd p).nk → (nd ((nd p).kd j).toNat).nr ≤ 1048576) : ∀ j, j ≤ (nd p).nk → ∀ x, 0 ≤ letS nv nd p j x ∧ letS nv nd p j x ≤ j * 1048576
  | 0, _, x => by simp [letS]
  | j + 1, hj, x => by
    have := letS_le nv nd p hr j (by omega) x
    have h2 := cntV_le nv (nd ((nd p).kd j).toNat).rf (nd ((nd p).kd j).toNat).nr x
    have h3 := hr j (by omega)
    simp only [letS]; split <;> omega

set_option maxRecDepth 100000 in
set_option maxHeartbeats 2000000 in
theorem visitBlock_any (c : Ctx) (ok : c.Ok) (p : Nat) (kk : Option Addr) (kn kc : Nat) (w : World) (dn : Nat → Bool) (hp : p < c.m.nn) (hk : (c.m.nm p).kind = 1) (ih : ∀ q, q < p → c.VisitOk q) (S : c.Std w (c.L p) (c.H p) dn) :
    Calls Tryz.prog 61 #[.pointer (some ⟨c.wb, 0, none⟩), .agg #[.int .i64 p, .int .i64 (c.m.nm p).kind, .int .i64 (c.m.nm p).line, .int .i64 (c.m.nm p).op, .int .i64 (c.m.nm p).num, .float .f64 (c.m.nm p).flt, .string (c.m.nm p).str, .slice (c.m.nm p).ra (c.m.nm p).nr (c.m.nm p).rc, .slice (c.m.nm p).ka (c.m.nm p).nk (c.m.nm p).kc, .slice kk kn kc]] w fun e w' => ∃ dn', e = .returned (.tuple #[]) ∧ c.Std w' (c.L p) (c.H p) dn' ∧ c.Keep w w' ∧ c.Grow dn dn' ∧ ∀ j, j < (c.m.nm p).nk → dn' ((c.m.nm p).kd j).toNat = true := by
  have OK : Hid _ := ok
  have IH : Hid _ := ih
  have hI := (ok.hma.2.2.2 p hp).2
  have n1 := S.W.blk.lt
  obtain ⟨⟨_, hB0, _⟩, ⟨_, sB0, _⟩⟩ := And.intro S.H S.S
  have n2 := hB0.lt
  have n3 := sB0.lt
  have kn200 := ok.nk p hp
  have HK : Hid _ := hk
  have HBd : Hid (∀ k, k ≤ (c.m.nm p).nk → ∀ x, -1099511627776 ≤ (fun x => c.H p x + letS c.m.nv (ndOf c.m.nm) p k x) x ∧ (fun x => c.H p x + letS c.m.nv (ndOf c.m.nm) p k x) x ≤ 1099511627776) := fun k hk x => by
    have h1 := ok.hH p hp x
    have h2 := letS_le c.m.nv (ndOf c.m.nm) p (fun j hj => by
      obtain ⟨q0, q1⟩ := ok.kids p hp j hj
      exact (ok.hsm.2.2.2 ((c.m.nm p).kd j).toNat (by omega)).1) k hk x
    simp only; omega
  have HBd2 : Hid (∀ k, k ≤ (c.m.nm p).nk → ∀ x, -1099511627776 ≤ (fun x => c.H p x + letS c.m.nv (ndOf c.m.nm) p (c.m.nm p).nk x - letS c.m.nv (ndOf c.m.nm) p k x) x ∧ (fun x => c.H p x + letS c.m.nv (ndOf c.m.nm) p (c.m.nm p).nk x - letS c.m.nv (ndOf c.m.nm) p k x) x ≤ 1099511627776) := fun k hk x => by
    have h1 := ok.hH p hp x
    have hr : ∀ j, j < (ndOf c.m.nm p).nk → (ndOf c.m.nm ((ndOf c.m.nm p).kd j).toNat).nr ≤ 1048576 := fun j hj => by
      obtain ⟨q0, q1⟩ := ok.kids p hp j hj
      exact (ok.hsm.2.2.2 ((c.m.nm p).kd j).toNat (by omega)).1
    have h2 := letS_le c.m.nv (ndOf c.m.nm) p hr k hk x
    have h3 := letS_le c.m.nv (ndOf c.m.nm) p hr (c.m.nm p).nk (Nat.le_refl _) x
    simp only; omega
  clear ok ih hk hB0 sB0
  obtain ⟨KA, hKA⟩ : ∃ KA, (c.m.nm p).ka = KA := ⟨_, rfl⟩
  rw [hKA] at hI ⊢
  clear hKA
  go_enter Tryz.func61, Tryz.ntmps61
  go_wp2_with fail
  have hS0 : c.Std (w.alloc (Obj.cells #[.int .i64 p, .int .i64 (c.m.nm p).kind, .int .i64 (c.m.nm p).line, .int .i64 (c.m.nm p).op, .int .i64 (c.m.nm p).num, .float .f64 (c.m.nm p).flt, .string (c.m.nm p).str, .slice (c.m.nm p).ra (c.m.nm p).nr (c.m.nm p).rc, .slice KA (c.m.nm p).nk (c.m.nm p).kc, .slice kk kn kc] 125)) (c.L p) (c.H p) dn := Ctx.St.onw S (Onw.alloc _ _)
  have hBx : Blk (w.alloc (Obj.cells #[.int .i64 p, .int .i64 (c.m.nm p).kind, .int .i64 (c.m.nm p).line, .int .i64 (c.m.nm p).op, .int .i64 (c.m.nm p).num, .float .f64 (c.m.nm p).flt, .string (c.m.nm p).str, .slice (c.m.nm p).ra (c.m.nm p).nr (c.m.nm p).rc, .slice KA (c.m.nm p).nk (c.m.nm p).kc, .slice kk kn kc] 125)) w.heap.size 125 #[.int .i64 p, .int .i64 (c.m.nm p).kind, .int .i64 (c.m.nm p).line, .int .i64 (c.m.nm p).op, .int .i64 (c.m.nm p).num, .float .f64 (c.m.nm p).flt, .string (c.m.nm p).str, .slice (c.m.nm p).ra (c.m.nm p).nr (c.m.nm p).rc, .slice KA (c.m.nm p).nk (c.m.nm p).kc, .slice kk kn kc] := Blk.new _ _ _
  go_loopw [17] (fun i wr => ∃ (k : Nat) (dk : Nat → Bool), k ≤ (c.m.nm p).nk ∧ i = .int .i64 k ∧ c.Std wr (c.L p) (fun x => c.H p x + letS c.m.nv (ndOf c.m.nm) p k x) dk ∧ Blk wr w.heap.size 125 #[.int .i64 p, .int .i64 (c.m.nm p).kind, .int .i64 (c.m.nm p).line, .int .i64 (c.m.nm p).op, .int .i64 (c.m.nm p).num, .float .f64 (c.m.nm p).flt, .string (c.m.nm p).str, .slice (c.m.nm p).ra (c.m.nm p).nr (c.m.nm p).rc, .slice KA (c.m.nm p).nk (c.m.nm p).kc, .slice kk kn kc] ∧ c.Keep w wr ∧ c.Grow dn dk ∧ ∀ j, j < k → dk ((c.m.nm p).kd j).toNat = true) (fun i _ => (c.m.nm p).nk - (intOf i).toNat)
  case atStart => exact ⟨0, dn, Nat.zero_le _, rfl, Ctx.St.hs hS0 (fun v _ => by simp [letS]), hBx, Ctx.Keep.onw (Onw.alloc _ _), Ctx.Grow.refl _ _, fun j hj => absurd hj (Nat.not_lt_zero _)⟩
  case round =>
    clear S hS0 hBx
    obtain ⟨k, dk, hk, rfl, S, hBx, K, G, hd⟩ := hrel
    have HD : Hid _ := hd
    clear hd
    by_cases hlt : k < (c.m.nm p).nk
    · obtain ⟨b, off, rfl, hc⟩ := hI.onw S.o (by omega)
      have hck := hc k hlt
      obtain ⟨q0, q1⟩ := OK.out.kids p hp k hlt
      obtain ⟨q, hq⟩ := Int.eq_ofNat_of_zero_le q0
      have HQ : Hid _ := hq
      rw [hq] at hck q1
      have hqp : q < p := by omega
      clear hc hq q0 q1
      have hl : Hid (c.L q = c.L p) := by
        have := OK.out.eL p hp k hlt
        rw [HQ.out, HK.out] at this
        show _ = _
        simpa [loopK] using this
      have hh : Hid (∀ v, v < c.m.nv → c.H q v = c.H p v + letS c.m.nv (ndOf c.m.nm) p k v) := fun v hv => by
        have := OK.out.eH p hp k hlt v hv
        rw [HQ.out, HK.out] at this
        simpa using this
      go_wp2_with fail
      refine (IH.out q hqp _ dk (by rw [hl.out]; exact Ctx.St.hs S hh.out)).mono ?_
      rintro e w1 ⟨d1, rfl, S1, K1, G1, h1⟩
      rw [hl.out] at S1
      have S1' : c.Std w1 (c.L p) (fun x => c.H p x + letS c.m.nv (ndOf c.m.nm) p k x) d1 := Ctx.St.hs S1 fun v hv => (hh.out v hv).symm
      have hBx1 := K1.blk (Nat.ne_of_gt n1) (Nat.ne_of_gt n2) (Nat.ne_of_gt n3) hBx
      clear S1 S hBx
      have x := S1'.W.blk.cell
      have hq1 : q < c.m.nn := by omega
      obtain ⟨v, g1, kq, rfl, hI2, _⟩ := OK.out.hF q hq1
      have g2 := cell_onw S1'.o g1
      clear g1
      have nk2 := OK.out.nk q hq1
      by_cases hkq : (c.m.nm q).kind = 2
      · have asl := as_let_yes (d := (c.m.nm q).toND) nk2 hkq
        have hIr := (OK.out.hma.2.2.2 q hq1).1
        have hnr := (OK.out.hsm.2.2.2 q hq1).1
        have HKQ : Hid _ := hkq
        go_wp2_with fail
        refine (hold_up c OK.out _ _ _ (c.m.nm q).rf (c.L p) _ _ _ _ hnr hIr (HBd.out k (by omega)) (Ctx.St.onw S1' (Onw.alloc _ _))).mono ?_
        rintro e w2 ⟨rfl, S2, K2⟩
        go_wp2_with fail
        go_roundw
        case rel =>
          refine ⟨k + 1, d1, by omega, by go_num, Ctx.St.hs S2 fun v hv => ?_, K2.blk (Nat.ne_of_gt n1) (Nat.ne_of_gt n2) (Nat.ne_of_gt n3) (hBx1.onw (Onw.alloc _ _)), ((K.trans K1).trans (Ctx.Keep.onw (Onw.alloc _ _))).trans K2, G.trans G1, fun j hj => ?_⟩
          · have := letS_step c.m.nv (ndOf c.m.nm) p k v
            have e1 : ((ndOf c.m.nm p).kd k).toNat = q := by show ((c.m.nm p).kd k).toNat = q; rw [HQ.out]; rfl
            rw [e1, if_pos (show (ndOf c.m.nm q).kind = 2 from HKQ.out)] at this
            rw [this, Int.add_assoc]; rfl
          · by_cases e : j = k
            · subst e; rw [HQ.out]; exact h1
            · exact G1.mono _ (HD.out j (by omega))
        case measure => simp [intOf]; omega
      · have asl := as_let_no (d := (c.m.nm q).toND) nk2 hkq
        have HKQ : Hid _ := hkq
        go_wp2_with fail
        go_roundw
        case rel =>
          refine ⟨k + 1, d1, by omega, by go_num, Ctx.St.hs (Ctx.St.onw S1' (Onw.alloc _ _)) fun v hv => ?_, hBx1.onw (Onw.alloc _ _), (K.trans K1).trans (Ctx.Keep.onw (Onw.alloc _ _)), G.trans G1, fun j hj => ?_⟩
          · have := letS_step c.m.nv (ndOf c.m.nm) p k v
            have e1 : ((ndOf c.m.nm p).kd k).toNat = q := by show ((c.m.nm p).kd k).toNat = q; rw [HQ.out]; rfl
            rw [e1, if_neg (show ¬ (ndOf c.m.nm q).kind = 2 from HKQ.out)] at this
            rw [this, Int.add_zero]
          · by_cases e : j = k
            · subst e; rw [HQ.out]; exact h1
            · exact G1.mono _ (HD.out j (by omega))
        case measure => simp [intOf]; omega
    · have : k = (c.m.nm p).nk := by omega
      subst this
      have x := hBx.cell
      go_wp2_with fail
      clear x hBx
      obtain ⟨w0, hw0⟩ : ∃ x, x = wr := ⟨_, rfl⟩
      subst hw0
      have HS : Hid _ := S
      clear S
      go_loopw [48] (fun i wr => ∃ (k : Nat), k ≤ (c.m.nm p).nk ∧ i = .int .i64 k ∧ c.Std wr (c.L p) (fun x => c.H p x + letS c.m.nv (ndOf c.m.nm) p (c.m.nm p).nk x - letS c.m.nv (ndOf c.m.nm) p k x) dk ∧ c.Keep w wr) (fun i _ => (c.m.nm p).nk - (intOf i).toNat)
      case atStart => exact ⟨0, Nat.zero_le _, rfl, Ctx.St.hs HS.out (fun v _ => by simp [letS]), K⟩
      case round =>
        clear K
        obtain ⟨k, hk, rfl, S, K⟩ := hrel
        by_cases hlt : k < (c.m.nm p).nk
        · obtain ⟨b, off, rfl, hc⟩ := hI.onw S.o (by omega)
          have hck := hc k hlt
          obtain ⟨q0, q1⟩ := OK.out.kids p hp k hlt
          obtain ⟨q, hq⟩ := Int.eq_ofNat_of_zero_le q0
          have HQ : Hid _ := hq
          rw [hq] at hck q1
          have hqp : q < p := by omega
          clear hc hq q0 q1
          have x := S.W.blk.cell
          have hq1 : q < c.m.nn := by omega
          obtain ⟨v, g1, kq, rfl, hI2, _⟩ := OK.out.hF q hq1
          have g2 := cell_onw S.o g1
          clear g1
          have nk2 := OK.out.nk q hq1
          by_cases hkq : (c.m.nm q).kind = 2
          · have asl := as_let_yes (d := (c.m.nm q).toND) nk2 hkq
            have hIr := (OK.out.hma.2.2.2 q hq1).1
            have hnr := (OK.out.hsm.2.2.2 q hq1).1
            have HKQ : Hid _ := hkq
            go_wp2_with fail
            refine (hold_down c OK.out _ _ _ (c.m.nm q).rf (c.L p) _ _ _ _ hnr hIr (HBd2.out k (by omega)) (Ctx.St.onw S (Onw.alloc _ _))).mono ?_
            rintro e w2 ⟨rfl, S2, K2⟩
            go_wp2_with fail
            go_roundw
            case rel =>
              refine ⟨k + 1, by omega, by go_num, Ctx.St.hs S2 fun v hv => ?_, (K.trans (Ctx.Keep.onw (Onw.alloc _ _))).trans K2⟩
              have := letS_step c.m.nv (ndOf c.m.nm) p k v
              have e1 : ((ndOf c.m.nm p).kd k).toNat = q := by show ((c.m.nm p).kd k).toNat = q; rw [HQ.out]; rfl
              rw [e1, if_pos (show (ndOf c.m.nm q).kind = 2 from HKQ.out)] at this
              show _ - letS c.m.nv (ndOf c.m.nm) p (k + 1) v = _ - letS c.m.nv (ndOf c.m.nm) p k v - cntV c.m.nv (ndOf c.m.nm q).rf (ndOf c.m.nm q).nr v
              rw [this]; omega
            case measure => simp [intOf]; omega
          · have asl := as_let_no (d := (c.m.nm q).toND) nk2 hkq
            have HKQ : Hid _ := hkq
            go_wp2_with fail
            go_roundw
            case rel =>
              refine ⟨k + 1, by omega, by go_num, Ctx.St.hs (Ctx.St.onw S (Onw.alloc _ _)) fun v hv => ?_, K.trans (Ctx.Keep.onw (Onw.alloc _ _))⟩
              have := letS_step c.m.nv (ndOf c.m.nm) p k v
              have e1 : ((ndOf c.m.nm p).kd k).toNat = q := by show ((c.m.nm p).kd k).toNat = q; rw [HQ.out]; rfl
              rw [e1, if_neg (show ¬ (ndOf c.m.nm q).kind = 2 from HKQ.out)] at this
              rw [this, Int.add_zero]
            case measure => simp [intOf]; omega
        · have : k = (c.m.nm p).nk := by omega
          subst this
          go_wp2_with fail
          go_end0
          exact ⟨dk, rfl, Ctx.St.hs S (fun v hv => by omega), K, G, HD.out⟩
end Go.Proofs.YtjebijnndfkinaaGreat
