import Derived.Test.YtjebijnndfkinaaGreatP03
import Derived.Deep.QuietTactic
import Derived.BigQuiet
import Derived.BigRegion
namespace Go.Proofs.YtjebijnndfkinaaGreat
open Go.RowKit
attribute [local go_sem] run_store_float

def fitsH (d : FD) : Bool := headA d && decide (0 ≤ d.line) && decide (d.line ≤ 100000)
def namesB (d : FD) : Bool := allB (fun i => nameB (d.vr i) 1) 0 d.nv && decide ((d.name.size : Int) ≤ 40)

set_option maxHeartbeats 1000000 in
theorem headFits_any (m : FM) (w : World) : Calls Tryz.prog 39 #[.agg #[.string m.name, .int .i64 m.line, .int .i64 m.params, .bool m.rest, .slice m.va m.nv m.vc, .slice m.ua m.nu m.uc, .slice m.na m.nn m.nc]] w fun e w' => e = .returned (.bool (fitsH m.toFD)) ∧ Onw w w' := by
  have fin : Hid (fitsH m.toFD = (decide (0 < m.nn) && decide (m.nv ≤ 200) && decide (m.nu ≤ 200) && decide (0 ≤ m.params) && decide (m.params ≤ m.nv) && decide (0 ≤ m.line) && decide (m.line ≤ 100000))) := rfl
  go_enter Tryz.func39, Tryz.ntmps39
  go_wp2
  all_goals go_ret
  all_goals exact ⟨ret_bool (by rw [fin.out]; simp [*] <;> omega), Onw.alloc _ _⟩

set_option maxHeartbeats 1000000 in
theorem namesFit_any (m : FM) (w : World) (hv : m.nv ≤ 1048576) (ha : StrsAt w m.va m.nv m.vr) :
    Calls Tryz.prog 40 #[.agg #[.string m.name, .int .i64 m.line, .int .i64 m.params, .bool m.rest, .slice m.va m.nv m.vc, .slice m.ua m.nu m.uc, .slice m.na m.nn m.nc]] w fun e w' => e = .returned (.bool (namesB m.toFD)) ∧ Onw w w' := by
  obtain ⟨name, line, params, rest, nv, vr, nu, ul, ui, nn, nm, va, vc, ua, uc, na, nc⟩ := m
  simp only at *
  have fin : Hid (namesB (FM.toFD ⟨name, line, params, rest, nv, vr, nu, ul, ui, nn, nm, va, vc, ua, uc, na, nc⟩) = (allB (fun i => nameB (vr i) 1) 0 nv && decide ((name.size : Int) ≤ 40))) := rfl
  go_enter Tryz.func40, Tryz.ntmps40
  go_wp2_with fail
  go_loop [8] (fun i => ∃ k : Nat, k ≤ nv ∧ i = .int .i64 k ∧ allB (fun i => nameB (vr i) 1) 0 nv = allB (fun i => nameB (vr i) 1) k (nv - k)) (fun i => nv - (intOf i).toNat)
  case atStart => exact ⟨0, Nat.zero_le _, rfl, rfl⟩
  case round =>
    obtain ⟨k, hk, rfl, hr⟩ := hrel
    have HR : Hid _ := hr
    clear hr
    by_cases hlt : k < nv
    · obtain ⟨vb, vo, rfl, hvc⟩ := ha (by omega)
      have hvk := hvc k hlt
      have zv := cell_lt hvk
      clear hvc
      have hst : Hid (allB (fun i => nameB (vr i) 1) k (nv - k) = (nameB (vr k) 1 && allB (fun i => nameB (vr i) 1) (k + 1) (nv - (k + 1)))) := by
        show _ = _
        rw [show nv - k = (nv - (k + 1)) + 1 from by omega]; rfl
      by_cases hx : 1 ≤ (vr k).size ∧ (vr k).size ≤ 40
      · have nb : Hid (nameB (vr k) 1 = true) := by show _ = _; simp [nameB]; omega
        obtain ⟨x1, x2⟩ := hx
        go_wp2_with fail
        go_round
        case rel => exact ⟨k + 1, by omega, by go_num, by rw [HR.out, hst.out, nb.out]; rfl⟩
        case measure => simp [intOf]; omega
      · have nb : Hid (nameB (vr k) 1 = false) := by show _ = _; rw [← Bool.not_eq_true]; simp [nameB]; omega
        have hx' : (vr k).size < 1 ∨ (1 ≤ (vr k).size ∧ 40 < (vr k).size) := by omega
        clear hx
        rcases hx' with x1 | ⟨x1, x2⟩
        all_goals
          go_wp2_with fail
          go_ret
          exact ⟨ret_bool (by rw [fin.out, HR.out, hst.out, nb.out]; rfl), Onw.alloc _ _⟩
    · have hst : Hid (allB (fun i => nameB (vr i) 1) k (nv - k) = true) := by
        show _ = _
        rw [show nv - k = 0 from by omega]; rfl
      go_wp2_with fail
      go_ret
      exact ⟨ret_bool (by rw [fin.out, HR.out, hst.out, Bool.true_and]; try rfl), Onw.alloc _ _⟩

set_option maxRecDepth 100000 in
set_option maxHeartbeats 1000000 in
theorem sizeFits_any (u : UM) (w : World) (hn : u.nf ≤ 1048576) (hsum : sumTo (fun i => (u.fm i).nn) u.nf ≤ 1048576) (ha : u.At w) :
    Calls Tryz.prog 15 #[.agg #[.slice u.fa u.nf u.fc]] w fun e w' => e = .returned (.bool (!sizeBad u.toUD)) ∧ Onw w w' := by
  obtain ⟨nf, fm, fa, fc⟩ := u
  simp only at *
  have hmono : ∀ k, k ≤ nf → sumTo (fun i => (fm i).nn) k ≤ sumTo (fun i => (fm i).nn) nf := fun k hk => sumTo_mono _ k nf hk
  have HM : Hid _ := hmono
  clear hmono
  have fin : Hid (sizeBad (UM.toUD ⟨nf, fm, fa, fc⟩) = ((nf : Int) == 0 || decide ((300 : Int) < nf) || decide (3000 < ((sumTo (fun i => (fm i).nn) nf : Nat) : Int)))) := rfl
  by_cases h1 : nf < 1 ∨ 300 < nf
  · have fn : Hid (sizeBad (UM.toUD ⟨nf, fm, fa, fc⟩) = true) := by
      show _ = _
      rw [fin.out]
      rcases h1 with h | h
      · have : nf = 0 := by omega
        subst this; rfl
      · rw [decide_eq_true (show (300 : Int) < nf by omega)]; simp
    rcases h1 with h | h
    all_goals
      go_enter Tryz.func15, Tryz.ntmps15
      go_wp2_with fail
      go_ret
      exact ⟨ret_bool (by rw [fn.out]; rfl), Onw.alloc _ _⟩
  · have fn : Hid (sizeBad (UM.toUD ⟨nf, fm, fa, fc⟩) = decide (3000 < ((sumTo (fun i => (fm i).nn) nf : Nat) : Int))) := by
      show _ = _
      have e1 : ((nf : Int) == 0) = false := by simp; omega
      rw [fin.out, e1, decide_eq_false (show ¬ (300 : Int) < nf by omega)]; rfl
    have t1 : decide ((nf : Int) < 1) = false := by simp; omega
    have t2 : decide ((300 : Int) < (nf : Int)) = false := by simp; omega
    go_enter Tryz.func15, Tryz.ntmps15
    go_wp2_with fail
    go_loopw [3, 19] (fun t i wr => ∃ k : Nat, k ≤ nf ∧ i = .int .i64 k ∧ t = .int .i64 (sumTo (fun i => (fm i).nn) k : Nat) ∧ Onw w wr ∧ Blk wr w.heap.size 31 #[.slice fa nf fc]) (fun _ i _ => nf - (intOf i).toNat)
    case atStart => exact ⟨0, Nat.zero_le _, rfl, rfl, Onw.alloc _ _, Blk.new _ _ _⟩
    case round =>
      obtain ⟨k, hk, rfl, rfl, ob, B0⟩ := hrel
      by_cases hlt : k < nf
      · obtain ⟨b, off, rfl, hc⟩ := FnsAt.onw ob ha |>.1 (by show 0 < nf; omega)
        obtain ⟨c0, c1, c2, c3, c4, c5, c6⟩ := hc k hlt
        have m1 := HM.out (k + 1) (by omega)
        have st : Hid (sumTo (fun i => (fm i).nn) (k + 1) = sumTo (fun i => (fm i).nn) k + (fm k).nn) := rfl
        rw [st.out] at m1
        clear hc
        go_wp2_with fail
        go_roundw
        case rel => exact ⟨k + 1, by omega, by go_num, by rw [st.out]; go_num, ob.trans (Onw.alloc _ _), B0.onw (Onw.alloc _ _)⟩
        case measure => simp [intOf]; omega
      · have : k = nf := by omega
        subst this
        go_wp2_with fail
        go_ret
        have neg : ∀ x : Int, decide (x ≤ 3000) = !decide (3000 < x) := fun x => by rw [← decide_not]; exact decide_eq_decide.2 (by omega)
        exact ⟨ret_bool (by rw [fn.out]; exact neg _), ob⟩
end Go.Proofs.YtjebijnndfkinaaGreat

namespace Go.Proofs.YtjebijnndfkinaaGreat
open Go.RowKit
attribute [local go_sem] run_store_float

set_option maxHeartbeats 1000000 in
theorem head_any (m : NM) (p : Int) (kk : Option Addr) (kn kc : Nat) (w : World) :
    Calls Tryz.prog 102 #[.agg #[.int .i64 p, .int .i64 m.kind, .int .i64 m.line, .int .i64 m.op, .int .i64 m.num, .float .f64 m.flt, .string m.str, .slice m.ra m.nr m.rc, .slice m.ka m.nk m.kc, .slice kk kn kc]] w fun e w' => e = .returned (.agg #[.int .i64 p, .int .i64 m.kind, .int .i64 m.line, .int .i64 m.op, .int .i64 m.num, .float .f64 m.flt, .string m.str, .slice m.ra m.nr m.rc, .slice m.ka m.nk m.kc, .slice kk kn kc]) ∧ Onw w w' := by
  go_enter Tryz.func102, Tryz.ntmps102
  go_wp2
  exact bodyPost_ret (v := .agg #[.int .i64 p, .int .i64 m.kind, .int .i64 m.line, .int .i64 m.op, .int .i64 m.num, .float .f64 m.flt, .string m.str, .slice m.ra m.nr m.rc, .slice m.ka m.nk m.kc, .slice kk kn kc]) (by simp [results, Tryz.results102, go_sem]) rfl ⟨rfl, (Onw.alloc _ _).trans (Onw.alloc _ _)⟩

/-- The place of a fault, or that there is none. -/
def orNone (b : Bool) (n : Int) : Int := if b then -1 else n

/-- Code 2 of a fn, as the program asks it. -/
def headF (d : FD) (f : Nat) : Bool := fitsH d && namesB d && (!((f : Int) == 0) || (d.params == 0 && (d.nu : Int) == 0))

set_option maxRecDepth 100000 in
set_option maxHeartbeats 2000000 in
theorem headFault_any (u : UM) (fa sa ma : Option Addr) (fn' fc' sn sc mn mc : Nat) (f : Nat) (w : World) (hf : f < u.nf) (hn : u.nf ≤ 1048576) (hs : (u.fm f).Small) (ha : u.At w) :
    Calls Tryz.prog 18 #[.agg #[.slice u.fa u.nf u.fc, .slice fa fn' fc', .slice sa sn sc, .slice ma mn mc], .int .i64 f] w
      fun e w' => e = .returned (.int .i64 (orNone (headF (u.fm f).toFD f) 0)) ∧ Onw w w' := by
  obtain ⟨nf, fm, ua, uc⟩ := u
  simp only at *
  obtain ⟨b, off, hua, hc⟩ := FnsAt.onw (Onw.refl w) ha |>.1 (by show 0 < nf; omega)
  simp only at hua
  subst hua
  obtain ⟨c0, c1, c2, c3, c4, c5, c6⟩ := hc f hf
  have zb := cell_lt c0
  have aF := ha.2 f hf
  simp only at aF
  clear hc
  have zf : ((f : Int) == 0) = true ∨ ((f : Int) == 0) = false := by cases ((f : Int) == 0) <;> simp
  have zp : ((fm f).params != 0) = true ∨ ((fm f).params != 0) = false := by cases ((fm f).params != 0) <;> simp
  have zu : (((fm f).nu : Int) != 0) = true ∨ (((fm f).nu : Int) != 0) = false := by cases (((fm f).nu : Int) != 0) <;> simp
  have fin : Hid (headF (fm f).toFD f = (fitsH (fm f).toFD && namesB (fm f).toFD && (!((f : Int) == 0) || ((fm f).params == 0 && ((fm f).nu : Int) == 0)))) := rfl
  go_enter Tryz.func18, Tryz.ntmps18
  go_wp2_with fail
  refine (headFits_any (fm f) _).mono ?_
  rintro e w1 ⟨rfl, hb1⟩
  have X := Blk.onw hb1 (Blk.new (w.alloc (Obj.cells #[.slice (some ⟨b, off, none⟩) nf uc, .slice fa fn' fc', .slice sa sn sc, .slice ma mn mc] 44)) 61 #[.string (fm f).name, .int .i64 (fm f).line, .int .i64 (fm f).params, .bool (fm f).rest, .slice (fm f).va (fm f).nv (fm f).vc, .slice (fm f).ua (fm f).nu (fm f).uc, .slice (fm f).na (fm f).nn (fm f).nc])
  have o1 : Onw w w1 := ((Onw.alloc _ _).trans (Onw.alloc _ _)).trans hb1
  simp only [World.size_alloc] at X
  clear c0 c1 c2 c3 c4 c5 c6 hb1
  have x := X.cell
  cases h1 : fitsH (fm f).toFD
  · go_wp2_with fail
    go_ret
    exact ⟨ret_int (by rw [fin.out, h1]; rfl), o1⟩
  · go_wp2_with fail
    refine (namesFit_any (fm f) _ hs.1 (by exact aF.1.onw o1)).mono ?_
    rintro e w2 ⟨rfl, hb2⟩
    have X2 := X.onw hb2
    have o2 := o1.trans hb2
    clear x X
    have x := X2.cell
    cases h2 : namesB (fm f).toFD
    · go_wp2_with fail
      go_ret
      exact ⟨ret_int (by rw [fin.out, h1, h2]; rfl), o2⟩
    · rcases zf with zf | zf
      · rcases zp with zp | zp
        · have zp' : Hid (((fm f).params == 0) = false) := by show _ = _; simpa using zp
          go_wp2_with fail
          go_ret
          exact ⟨ret_int (by rw [fin.out, h1, h2, zf, zp'.out]; rfl), o2⟩
        · have zp' : Hid (((fm f).params == 0) = true) := by show _ = _; simpa using zp
          rcases zu with zu | zu
          · have zu' : Hid ((((fm f).nu : Int) == 0) = false) := by show _ = _; simpa using zu
            go_wp2_with fail
            go_ret
            exact ⟨ret_int (by rw [fin.out, h1, h2, zf, zp'.out, zu'.out]; rfl), o2⟩
          · have zu' : Hid ((((fm f).nu : Int) == 0) = true) := by show _ = _; simpa using zu
            go_wp2_with fail
            go_ret
            exact ⟨ret_int (by rw [fin.out, h1, h2, zf, zp'.out, zu'.out]; rfl), o2⟩
      · go_wp2_with fail
        go_ret
        exact ⟨ret_int (by rw [fin.out, h1, h2, zf]; rfl), o2⟩
end Go.Proofs.YtjebijnndfkinaaGreat

namespace Go.Proofs.YtjebijnndfkinaaGreat
open Go.RowKit

/-- Variables marked as declared, from place i on. -/
def decL (nv : Nat) (rf : Nat → Int) (dec : Nat → Int) (i : Nat) : Nat → Bool × (Nat → Int)
  | 0 => (true, dec)
  | m + 1 => if rf i < 0 ∨ (nv : Int) ≤ rf i then (false, dec) else if dec (rf i).toNat ≠ 0 then (false, dec) else decL nv rf (fun k => if k = (rf i).toNat then 1 else dec k) (i + 1) m

set_option maxHeartbeats 1000000 in
theorem declareAll_any (db nv : Nat) (cur : Array Value) (dec : Nat → Int) (ra : Option Addr) (nr rc : Nat) (rf : Nat → Int) (w : World) (hr : nr ≤ 1048576) (hd : Blk w db 3 cur) (hA : Arr cur nv dec) (hra : IntsAt w ra nr rf) (hsep : 0 < nr → ∀ x, ra = some x → x.block ≠ db) :
    Calls Tryz.prog 44 #[.slice (some ⟨db, 0, none⟩) nv nv, .slice ra nr rc] w fun e w' => ∃ cur', e = .returned (.bool (decL nv rf dec 0 nr).1) ∧ Below db w w' ∧ Kept (· ≠ db) w w' ∧ Blk w' db 3 cur' ∧ Arr cur' nv (decL nv rf dec 0 nr).2 := by
  go_enter Tryz.func44, Tryz.ntmps44
  go_wp2_with fail
  go_loopw [9] (fun i wr => ∃ (k : Nat) (cur' : Array Value) (dec' : Nat → Int), k ≤ nr ∧ i = .int .i64 k ∧ Below db w wr ∧ Kept (· ≠ db) w wr ∧ Blk wr db 3 cur' ∧ Arr cur' nv dec' ∧ decL nv rf dec 0 nr = decL nv rf dec' k (nr - k)) (fun i _ => nr - (intOf i).toNat)
  case atStart => exact ⟨0, cur, dec, Nat.zero_le _, rfl, Below.refl _ _, Kept.refl _ _, hd, hA, rfl⟩
  case round =>
    clear hd hA
    obtain ⟨k, cur, dec', hk, rfl, hb, hK, hd, hA, hq⟩ := hrel
    have HQ : Hid _ := hq
    clear hq
    by_cases hlt : k < nr
    · have hI := IntsAt.kept hK (fun x hx => hsep (by omega) x hx) hra
      obtain ⟨rb, ro, rfl, hrc⟩ := hI (by omega)
      have hrk := hrc k hlt
      clear hrc
      have st : Hid (decL nv rf dec' k (nr - k) = if rf k < 0 ∨ (nv : Int) ≤ rf k then (false, dec') else if dec' (rf k).toNat ≠ 0 then (false, dec') else decL nv rf (fun x => if x = (rf k).toNat then 1 else dec' x) (k + 1) (nr - (k + 1))) := by
        show _ = _
        rw [show nr - k = (nr - (k + 1)) + 1 from by omega]; rfl
      by_cases hbad : rf k < 0 ∨ (nv : Int) ≤ rf k
      · have fin : Hid (decL nv rf dec 0 nr = (false, dec')) := by show _ = _; rw [HQ.out, st.out, if_pos hbad]
        have hw : Hid (withinB (rf k) nv = false) := by show _ = _; rw [← Bool.not_eq_true]; simp [withinB]; omega
        clear hbad
        go_wp2_with fail
        refine (within_any _ _ _).mono ?_
        rintro e w1 ⟨rfl, rfl⟩
        rw [hw.out]
        go_wp2_with fail
        go_ret
        exact ⟨cur, ret_bool (by rw [fin.out]), hb, hK, hd, by rw [fin.out]; exact hA⟩
      · obtain ⟨q, hqq⟩ := Int.eq_ofNat_of_zero_le (show 0 ≤ rf k by omega)
        have hqn : q < nv := by omega
        have hw : Hid (withinB (q : Int) nv = true) := by show _ = _; simp [withinB]; omega
        have st2 : Hid (decL nv rf dec 0 nr = if dec' q ≠ 0 then (false, dec') else decL nv rf (fun x => if x = q then 1 else dec' x) (k + 1) (nr - (k + 1))) := by
          show _ = _
          rw [HQ.out, st.out, if_neg hbad, hqq]; rfl
        rw [hqq] at hrk
        clear hbad hqq st HQ
        have g0 : wr.cell? ⟨db, q, none⟩ = some (.int .i64 (dec' q)) := by rw [hd.cell]; exact hA.2 q hqn
        have fs := hd.free
        cases hx : (dec' q != 0)
        · have hz : Hid (dec' q = 0) := by show _ = _; simpa using hx
          have R : Hid (Arr (cur.setIfInBounds q (.int .i64 1)) nv (fun x => if x = q then 1 else dec' x)) := hA.set q 1 (fun _ _ => rfl)
          go_wp2_with fail
          refine (within_any _ _ _).mono ?_
          rintro e w1 ⟨rfl, rfl⟩
          rw [hw.out]
          go_wp2_with fail
          go_roundw
          case rel => exact ⟨k + 1, _, _, by omega, by go_num, below_set hb (Nat.le_refl _) _, hK.trans (kept_setCell _ _ _ _), hd.set q _, R.out, by rw [st2.out, if_neg (by rw [hz.out]; simp)]⟩
          case measure => simp [intOf]; omega
        · have hz : Hid (dec' q ≠ 0) := by show _ ≠ _; simpa using hx
          go_wp2_with fail
          refine (within_any _ _ _).mono ?_
          rintro e w1 ⟨rfl, rfl⟩
          rw [hw.out]
          go_wp2_with fail
          go_ret
          exact ⟨cur, ret_bool (by rw [st2.out, if_pos hz.out]), hb, hK, hd, by rw [st2.out, if_pos hz.out]; exact hA⟩
    · have fin : Hid (decL nv rf dec 0 nr = (true, dec')) := by
        show _ = _
        rw [HQ.out, show nr - k = 0 from by omega]; rfl
      go_wp2_with fail
      go_ret
      exact ⟨cur, ret_bool (by rw [fin.out]), hb, hK, hd, by rw [fin.out]; exact hA⟩

/-- The walker's block: fns, forms, ups, holds, loops, sights. -/
structure WalkAt (w : World) (wb : Nat) (f1 f2 : Value) (ups : Int) (hb nv : Nat) (loops : Int) (sb nn : Nat) : Prop where
  blk : Blk w wb 89 #[f1, f2, .int .i64 ups, .slice (some ⟨hb, 0, none⟩) nv nv, .int .i64 loops, .slice (some ⟨sb, 0, none⟩) nn nn]

def scopeB (nv : Nat) (h : Nat → Int) (v : Int) : Bool := withinB v nv && decide (0 < h v.toNat)

set_option maxHeartbeats 1000000 in
theorem inScope_any (wb : Nat) (f1 f2 : Value) (ups : Int) (hb nv : Nat) (loops : Int) (sb nn : Nat) (cur : Array Value) (h : Nat → Int) (v : Int) (w : World) (W : WalkAt w wb f1 f2 ups hb nv loops sb nn) (B : Blk w hb 3 cur) (A : Arr cur nv h) :
    Calls Tryz.prog 65 #[.pointer (some ⟨wb, 0, none⟩), .int .i64 v] w fun e w' => e = .returned (.bool (scopeB nv h v)) ∧ w' = w := by
  have x := W.blk.cell
  by_cases hin : 0 ≤ v ∧ v < nv
  · obtain ⟨q, rfl⟩ := Int.eq_ofNat_of_zero_le hin.1
    have hw : Hid (withinB (q : Int) nv = true) := by show _ = _; simp [withinB]; omega
    have hqn : q < nv := by omega
    have g0 : w.cell? ⟨hb, q, none⟩ = some (.int .i64 (h q)) := by rw [B.cell]; exact A.2 q hqn
    clear hin
    go_enter Tryz.func65, Tryz.ntmps65
    go_wp2_with fail
    refine (within_any _ _ _).mono ?_
    rintro e w1 ⟨rfl, rfl⟩
    rw [hw.out]
    go_wp2_with fail
    go_ret
    exact ⟨ret_bool (by rw [scopeB, hw.out]; rfl), rfl⟩
  · have hw : Hid (withinB v nv = false) := by show _ = _; rw [← Bool.not_eq_true]; simp [withinB]; omega
    clear hin
    go_enter Tryz.func65, Tryz.ntmps65
    go_wp2_with fail
    refine (within_any _ _ _).mono ?_
    rintro e w1 ⟨rfl, rfl⟩
    rw [hw.out]
    go_wp2_with fail
    go_ret
    exact ⟨ret_bool (by rw [scopeB, hw.out]; rfl), rfl⟩
end Go.Proofs.YtjebijnndfkinaaGreat

namespace Go.Proofs.YtjebijnndfkinaaGreat
open Go.RowKit

/-- The counts behind a hold, after k of the variables. -/
def holdF (nv : Nat) (h : Nat → Int) (vs : Nat → Int) (step : Int) : Nat → Nat → Int
  | 0 => h
  | k + 1 => fun x => if (x : Int) = vs k ∧ x < nv then holdF nv h vs step k x + step else holdF nv h vs step k x
theorem holdF_le (nv : Nat) (h : Nat → Int) (vs : Nat → Int) (step B : Int) (hs : -1 ≤ step ∧ step ≤ 1) (hB : ∀ x, -B ≤ h x ∧ h x ≤ B) : ∀ k x, -B - k ≤ holdF nv h vs step k x ∧ holdF nv h vs step k x ≤ B + k
  | 0, x => by have := hB x; simp only [holdF]; omega
  | k + 1, x => by
    have := holdF_le nv h vs step B hs hB k x
    simp only [holdF]; split <;> omega

set_option maxHeartbeats 1000000 in
theorem hold_any (wb : Nat) (f1 f2 : Value) (ups : Int) (hb nv : Nat) (loops : Int) (sb nn : Nat) (cur : Array Value) (h : Nat → Int) (va : Option Addr) (n vc : Nat) (vs : Nat → Int) (step : Int) (w : World)
    (W : WalkAt w wb f1 f2 ups hb nv loops sb nn) (B : Blk w hb 3 cur) (A : Arr cur nv h) (hn : n ≤ 1048576) (hs : -1 ≤ step ∧ step ≤ 1) (hB : ∀ x, -1099511627776 ≤ h x ∧ h x ≤ 1099511627776) (hva : IntsAt w va n vs) (hsep : 0 < n → ∀ x, va = some x → x.block ≠ hb) (hwb : wb ≠ hb) :
    Calls Tryz.prog 64 #[.pointer (some ⟨wb, 0, none⟩), .slice va n vc, .int .i64 step] w fun e w' => ∃ cur', e = .returned (.tuple #[]) ∧ Below hb w w' ∧ Kept (· ≠ hb) w w' ∧ w'.heap.size = w.heap.size ∧ Blk w' hb 3 cur' ∧ Arr cur' nv (holdF nv h vs step n) := by
  have HB : Hid _ := holdF_le nv h vs step 1099511627776 hs hB
  clear hB
  obtain ⟨hs1, hs2⟩ := hs
  go_enter Tryz.func64, Tryz.ntmps64
  go_wp2_with fail
  go_loopw [10] (fun i wr => ∃ (k : Nat) (cur' : Array Value), k ≤ n ∧ i = .int .i64 k ∧ Below hb w wr ∧ Kept (· ≠ hb) w wr ∧ wr.heap.size = w.heap.size ∧ Blk wr hb 3 cur' ∧ Arr cur' nv (holdF nv h vs step k)) (fun i _ => n - (intOf i).toNat)
  case atStart => exact ⟨0, cur, Nat.zero_le _, rfl, Below.refl _ _, Kept.refl _ _, rfl, B, A⟩
  case round =>
    clear B A
    obtain ⟨k, cur, hk, rfl, bw, hK, hz, B, A⟩ := hrel
    have HZ : Hid _ := hz
    clear hz
    by_cases hlt : k < n
    · have hI := IntsAt.kept hK (fun x hx => hsep (by omega) x hx) hva
      obtain ⟨rb, ro, rfl, hrc⟩ := hI (by omega)
      have hrk := hrc k hlt
      have x := (W.blk.kept hK hwb).cell
      clear hrc
      by_cases hin : 0 ≤ vs k ∧ vs k < nv
      · obtain ⟨q, hqq⟩ := Int.eq_ofNat_of_zero_le hin.1
        have hqn : q < nv := by omega
        have hw : Hid (withinB (q : Int) nv = true) := by show _ = _; simp [withinB]; omega
        have g0 : wr.cell? ⟨hb, q, none⟩ = some (.int .i64 (holdF nv h vs step k q)) := by rw [B.cell]; exact A.2 q hqn
        have lb := HB.out k q
        have l1 := lb.1
        have l2 := lb.2
        have R : Hid (Arr (cur.setIfInBounds q (.int .i64 (holdF nv h vs step k q + step))) nv (holdF nv h vs step (k + 1))) := by
          refine A.set q _ fun y hy => ?_
          simp only [holdF]
          by_cases e : y = q
          · subst e; rw [if_pos ⟨hqq.symm, hy⟩, if_pos rfl]
          · rw [if_neg (fun hh => e (by omega)), if_neg e]
        rw [hqq] at hrk
        have fs := B.free
        clear hin hqq lb
        go_wp2_with fail
        refine (within_any _ _ _).mono ?_
        rintro e w1 ⟨rfl, rfl⟩
        rw [hw.out]
        go_wp2_with fail
        go_roundw
        case rel => exact ⟨k + 1, _, by omega, by go_num, below_set bw (Nat.le_refl _) _, hK.trans (kept_setCell _ _ _ _), by rw [World.size_setCell]; exact HZ.out, B.set q _, R.out⟩
        case measure => simp [intOf]; omega
      · have hw : Hid (withinB (vs k) nv = false) := by show _ = _; rw [← Bool.not_eq_true]; simp [withinB]; omega
        have R : Hid (Arr cur nv (holdF nv h vs step (k + 1))) := by
          refine ⟨A.1, fun y hy => ?_⟩
          rw [A.2 y hy]
          simp only [holdF]
          rw [if_neg (fun hh => hin (by omega))]
        clear hin
        go_wp2_with fail
        refine (within_any _ _ _).mono ?_
        rintro e w1 ⟨rfl, rfl⟩
        rw [hw.out]
        go_wp2_with fail
        go_roundw
        case rel => exact ⟨k + 1, _, by omega, by go_num, bw, hK, HZ.out, B, R.out⟩
        case measure => simp [intOf]; omega
    · have : k = n := by omega
      subst this
      go_wp2_with fail
      go_end0
      exact ⟨cur, rfl, bw, hK, HZ.out, B, A⟩
end Go.Proofs.YtjebijnndfkinaaGreat

namespace Go.Proofs.YtjebijnndfkinaaGreat
open Go.RowKit

def upF (nv : Nat) (h : Nat → Int) (ups : Int) (l : Bool) (ix : Int) : Bool := if l then scopeB nv h ix else withinB ix ups
def upsF (nv : Nat) (h : Nat → Int) (ups : Int) (g : FD) : Bool := allB (fun i => upF nv h ups (g.ul i) (g.ui i)) 0 g.nu

set_option maxRecDepth 100000 in
set_option maxHeartbeats 1000000 in
theorem findsUps_in (u : UM) (wb : Nat) (f2 : Value) (ups : Int) (hb nv : Nat) (loops : Int) (sb nn : Nat) (cur : Array Value) (h : Nat → Int) (g : Nat) (w : World) (hg : g < u.nf) (hn : u.nf ≤ 1048576) (hu : (u.fm g).nu ≤ 1048576) (ha : u.At w) (W : WalkAt w wb (.slice u.fa u.nf u.fc) f2 ups hb nv loops sb nn) (B : Blk w hb 3 cur) (A : Arr cur nv h) :
    Calls Tryz.prog 66 #[.pointer (some ⟨wb, 0, none⟩), .int .i64 g] w fun e w' => e = .returned (.bool (upsF nv h ups (u.fm g).toFD)) ∧ Onw w w' := by
  obtain ⟨nf, fm, ua, uc⟩ := u
  simp only at *
  have hw : Hid (withinB (g : Int) nf = true) := by show _ = _; simp [withinB]; omega
  obtain ⟨b, off, hua, hc⟩ := ha.1 (by show 0 < nf; omega)
  simp only at hua
  subst hua
  have x := W.blk.cell
  have aU := (ha.2 g hg).2.1
  have c5 := (hc g hg).c5
  have zb := cell_lt c5
  have zw := W.blk.lt
  clear hc
  go_enter Tryz.func66, Tryz.ntmps66
  go_wp2_with fail
  refine (within_any _ _ _).mono ?_
  rintro e wx ⟨rfl, rfl⟩
  rw [hw.out]
  go_wp2_with fail
  obtain ⟨UA, hUA⟩ : ∃ UA, (fm g).ua = UA := ⟨_, rfl⟩
  rw [hUA] at aU c5 ⊢
  clear hUA c5
  go_loopw [24] (fun i wr => ∃ k : Nat, k ≤ (fm g).nu ∧ i = .int .i64 k ∧ Onw wx wr ∧ upsF nv h ups (fm g).toFD = allB (fun i => upF nv h ups ((fm g).ul i) ((fm g).ui i)) k ((fm g).nu - k)) (fun i _ => (fm g).nu - (intOf i).toNat)
  case atStart => exact ⟨0, Nat.zero_le _, rfl, Onw.refl _, rfl⟩
  case round =>
    clear x
    obtain ⟨k, hk, rfl, ob, hq⟩ := hrel
    have HQ : Hid _ := hq
    clear hq
    by_cases hlt : k < (fm g).nu
    · obtain ⟨ub, uo, rfl, hcc⟩ := aU.onw ob (by omega)
      obtain ⟨d0, d1⟩ := hcc k hlt
      clear hcc
      have zu := cell_lt d0
      have W1 : WalkAt wr wb (.slice (some ⟨b, off, none⟩) nf uc) f2 ups hb nv loops sb nn := ⟨W.blk.onw ob⟩
      have x := W1.blk.cell
      have B1 := B.onw ob
      have st : Hid (allB (fun i => upF nv h ups ((fm g).ul i) ((fm g).ui i)) k ((fm g).nu - k) = (upF nv h ups ((fm g).ul k) ((fm g).ui k) && allB (fun i => upF nv h ups ((fm g).ul i) ((fm g).ui i)) (k + 1) ((fm g).nu - (k + 1)))) := by
        show _ = _
        rw [show (fm g).nu - k = ((fm g).nu - (k + 1)) + 1 from by omega]; rfl
      cases hl : (fm g).ul k
      · have su : Hid (upF nv h ups ((fm g).ul k) ((fm g).ui k) = withinB ((fm g).ui k) ups) := by show _ = _; rw [hl]; rfl
        rw [hl] at d0
        have x2 : wr.cell? ⟨wb, 2, none⟩ = some (.int .i64 ups) := by rw [x]; rfl
        have zw1 : wb < wr.heap.size := W1.blk.lt
        clear x
        go_wp2_with fail
        cases hy : withinB ((fm g).ui k) ups
        all_goals
          go_region_held3 (fun w' => w'.cell? ⟨wr.heap.size, 0, none⟩ = some (.bool false) ∧ w'.cell? ⟨wr.heap.size, 1, none⟩ = some (.int .i64 ((fm g).ui k)) ∧ w'.cell? ⟨wb, 2, none⟩ = some (.int .i64 ups)) (go_keep)
            (first | (go_at_call 43; refine (within_any _ _ _).mono ?_; rintro e w1 ⟨rfl, rfl⟩; rw [hy]))
        · go_wp2_with fail
          go_ret
          exact ⟨ret_bool (by rw [HQ.out, st.out, su.out, hy]; rfl), Below.drew (ob.trans (Onw.alloc _ _))⟩
        · go_wp2_with fail
          go_roundw
          case rel => exact ⟨k + 1, by omega, by go_num, Below.drew (ob.trans (Onw.alloc _ _)), by rw [HQ.out, st.out, su.out, hy]; rfl⟩
          case measure => simp [intOf]; omega
      · have su : Hid (upF nv h ups ((fm g).ul k) ((fm g).ui k) = scopeB nv h ((fm g).ui k)) := by show _ = _; rw [hl]; rfl
        rw [hl] at d0
        have x2 : wr.cell? ⟨wb, 2, none⟩ = some (.int .i64 ups) := by rw [x]; rfl
        have zw1 : wb < wr.heap.size := W1.blk.lt
        go_wp2_with fail
        refine (inScope_any wb _ _ _ hb nv _ _ _ cur h _ _ ⟨W1.blk.onw (Onw.alloc _ _)⟩ (B1.onw (Onw.alloc _ _)) A).mono ?_
        rintro e w1 ⟨rfl, rfl⟩
        cases hy : scopeB nv h ((fm g).ui k)
        · go_wp2_with fail
          go_ret
          exact ⟨ret_bool (by rw [HQ.out, st.out, su.out, hy]; rfl), ob.trans (Onw.alloc _ _)⟩
        · go_wp2_with fail
          go_quiet (fail)
          go_wp2_with fail
          go_roundw
          case rel => exact ⟨k + 1, by omega, by go_num, below_drewN (ob.trans (Onw.alloc _ _)) _, by rw [HQ.out, st.out, su.out, hy]; rfl⟩
          case measure => simp [intOf]; omega
    · have st : Hid (allB (fun i => upF nv h ups ((fm g).ul i) ((fm g).ui i)) k ((fm g).nu - k) = true) := by
        show _ = _
        rw [show (fm g).nu - k = 0 from by omega]; rfl
      go_wp2_with fail
      go_ret
      exact ⟨ret_bool (by rw [HQ.out, st.out]), ob⟩

set_option maxHeartbeats 1000000 in
theorem findsUps_out (wb : Nat) (f2 : Value) (fa : Option Addr) (nf fc : Nat) (ups : Int) (hb nv : Nat) (loops : Int) (sb nn : Nat) (g : Int) (w : World) (hg : g < 0 ∨ (nf : Int) ≤ g) (W : WalkAt w wb (.slice fa nf fc) f2 ups hb nv loops sb nn) :
    Calls Tryz.prog 66 #[.pointer (some ⟨wb, 0, none⟩), .int .i64 g] w fun e w' => e = .returned (.bool false) ∧ Onw w w' := by
  have hw : Hid (withinB g nf = false) := by show _ = _; rw [← Bool.not_eq_true]; simp [withinB]; omega
  have x := W.blk.cell
  have zw := W.blk.lt
  clear hg
  go_enter Tryz.func66, Tryz.ntmps66
  go_wp2_with fail
  refine (within_any _ _ _).mono ?_
  rintro e wx ⟨rfl, rfl⟩
  rw [hw.out]
  go_wp2_with fail
  go_ret
  exact ⟨rfl, Onw.refl _⟩

/-- Is all there that fn g closes over? -/
def findsB (u : UD) (nv : Nat) (h : Nat → Int) (ups : Int) (g : Int) : Bool := withinB g u.nf && upsF nv h ups (u.fn g.toNat)

theorem findsUps_any (u : UM) (wb : Nat) (f2 : Value) (ups : Int) (hb nv : Nat) (loops : Int) (sb nn : Nat) (cur : Array Value) (h : Nat → Int) (g : Int) (w : World) (hn : u.nf ≤ 1048576) (hu : ∀ f, f < u.nf → (u.fm f).nu ≤ 1048576) (ha : u.At w) (W : WalkAt w wb (.slice u.fa u.nf u.fc) f2 ups hb nv loops sb nn) (B : Blk w hb 3 cur) (A : Arr cur nv h) :
    Calls Tryz.prog 66 #[.pointer (some ⟨wb, 0, none⟩), .int .i64 g] w fun e w' => e = .returned (.bool (findsB u.toUD nv h ups g)) ∧ Onw w w' := by
  by_cases hg : 0 ≤ g ∧ g < u.nf
  · obtain ⟨q, rfl⟩ := Int.eq_ofNat_of_zero_le hg.1
    have hq : q < u.nf := by omega
    refine (findsUps_in u wb f2 ups hb nv loops sb nn cur h q w hq hn (hu q hq) ha W B A).mono ?_
    rintro e w' ⟨rfl, h1⟩
    refine ⟨ret_bool ?_, h1⟩
    have : withinB (q : Int) u.toUD.nf = true := by simp [withinB]; exact hq
    rw [findsB, this]; rfl
  · refine (findsUps_out wb f2 u.fa u.nf u.fc ups hb nv loops sb nn g w (by omega) W).mono ?_
    rintro e w' ⟨rfl, h1⟩
    refine ⟨ret_bool ?_, h1⟩
    have : withinB g u.toUD.nf = false := by rw [← Bool.not_eq_true]; simp [withinB]; exact fun h0 => Int.not_lt.mp fun h1 => hg ⟨h0, h1⟩
    rw [findsB, this]; rfl
end Go.Proofs.YtjebijnndfkinaaGreat
