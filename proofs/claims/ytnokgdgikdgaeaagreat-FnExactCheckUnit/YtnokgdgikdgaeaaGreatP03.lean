import Derived.Test.YtnokgdgikdgaeaaGreatP02
import Derived.Deep.QuietTactic
import Derived.BigQuiet
import Derived.BigRegion
namespace Go.Proofs.YtnokgdgikdgaeaaGreat
open Go.RowKit

/-- The counts behind a hold, after k of the variables. -/
def holdF (nv : Nat) (h : Nat → Int) (vs : Nat → Int) (step : Int) : Nat → Nat → Int
  | 0 => h
  | k + 1 => fun x => if (x : Int) = vs k ∧ x < nv then holdF nv h vs step k x + step else holdF nv h vs step k x
theorem holdF_le (nv : Nat) (h : Nat → Int) (vs : Nat → Int) (step B : Int) (hs : -1 ≤ step ∧ step ≤ 1) (hB : ∀ x, -B ≤ h x ∧ h x ≤ B) : ∀ k x, -B - k ≤ holdF nv h vs step k x ∧ holdF nv h vs step k x ≤ B + k
  | 0, x => by have := hB x; simp only [holdF]; omega
  | k + 1, x => by
    have := holdF_le nv h vs step B hs hB k x
    simp only [holdF]; split <;> omega

set_option maxHeartbeats 1000000 in
theorem hold_any (wb : Nat) (f1 f2 : Value) (ups : Int) (hb nv : Nat) (loops : Int) (sb nn : Nat) (cur : Array Value) (h : Nat → Int) (va : Option Addr) (n vc : Nat) (vs : Nat → Int) (step : Int) (w : World)
    (W : WalkAt w wb f1 f2 ups hb nv loops sb nn) (B : Blk w hb 3 cur) (A : Arr cur nv h) (hn : n ≤ 1048576) (hs : -1 ≤ step ∧ step ≤ 1) (hB : ∀ x, -1099511627776 ≤ h x ∧ h x ≤ 1099511627776) (hva : IntsAt w va n vs) (hsep : 0 < n → ∀ x, va = some x → x.block ≠ hb) (hwb : wb ≠ hb) :
    Calls Tryz.prog 64 #[.pointer (some ⟨wb, 0, none⟩), .slice va n vc, .int .i64 step] w fun e w' => ∃ cur', e = .returned (.tuple #[]) ∧ Below hb w w' ∧ Kept (· ≠ hb) w w' ∧ w'.heap.size = w.heap.size ∧ Blk w' hb 3 cur' ∧ Arr cur' nv (holdF nv h vs step n) := by
  have HB : Hid _ := holdF_le nv h vs step 1099511627776 hs hB
  clear hB
  obtain ⟨hs1, hs2⟩ := hs
  go_enter Tryz.func64, Tryz.ntmps64
  go_wp2_with fail
  go_loopw [10] (fun i wr => ∃ (k : Nat) (cur' : Array Value), k ≤ n ∧ i = .int .i64 k ∧ Below hb w wr ∧ Kept (· ≠ hb) w wr ∧ wr.heap.size = w.heap.size ∧ Blk wr hb 3 cur' ∧ Arr cur' nv (holdF nv h vs step k)) (fun i _ => n - (intOf i).toNat)
  case atStart => exact ⟨0, cur, Nat.zero_le _, rfl, Below.refl _ _, Kept.refl _ _, rfl, B, A⟩
  case round =>
    clear B A
    obtain ⟨k, cur, hk, rfl, bw, hK, hz, B, A⟩ := hrel
    have HZ : Hid _ := hz
    clear hz
    by_cases hlt : k < n
    · have hI := IntsAt.kept hK (fun x hx => hsep (by omega) x hx) hva
      obtain ⟨rb, ro, rfl, hrc⟩ := hI (by omega)
      have hrk := hrc k hlt
      have x := (W.blk.kept hK hwb).cell
      clear hrc
      by_cases hin : 0 ≤ vs k ∧ vs k < nv
      · obtain ⟨q, hqq⟩ := Int.eq_ofNat_of_zero_le hin.1
        have hqn : q < nv := by omega
        have hw : Hid (withinB (q : Int) nv = true) := by show _ = _; simp [withinB]; omega
        have g0 : wr.cell? ⟨hb, q, none⟩ = some (.int .i64 (holdF nv h vs step k q)) := by rw [B.cell]; exact A.2 q hqn
        have lb := HB.out k q
        have l1 := lb.1
        have l2 := lb.2
        have R : Hid (Arr (cur.setIfInBounds q (.int .i64 (holdF nv h vs step k q + step))) nv (holdF nv h vs step (k + 1))) := by
          refine A.set q _ fun y hy => ?_
          simp only [holdF]
          by_cases e : y = q
          · subst e; rw [if_pos ⟨hqq.symm, hy⟩, if_pos rfl]
          · rw [if_neg (fun hh => e (by omega)), if_neg e]
        rw [hqq] at hrk
        have fs := B.free
        clear hin hqq lb
        go_wp2_with fail
        refine (within_any _ _ _).mono ?_
        rintro e w1 ⟨rfl, rfl⟩
        rw [hw.out]
        go_wp2_with fail
        go_roundw
        case rel => exact ⟨k + 1, _, by omega, by go_num, below_set bw (Nat.le_refl _) _, hK.trans (kept_setCell _ _ _ _), by rw [World.size_setCell]; exact HZ.out, B.set q _, R.out⟩
        case measure => simp [intOf]; omega
      · have hw : Hid (withinB (vs k) nv = false) := by show _ = _; rw [← Bool.not_eq_true]; simp [withinB]; omega
        have R : Hid (Arr cur nv (holdF nv h vs step (k + 1))) := by
          refine ⟨A.1, fun y hy => ?_⟩
          rw [A.2 y hy]
          simp only [holdF]
          rw [if_neg (fun hh => hin (by omega))]
        clear hin
        go_wp2_with fail
        refine (within_any _ _ _).mono ?_
        rintro e w1 ⟨rfl, rfl⟩
        rw [hw.out]
        go_wp2_with fail
        go_roundw
        case rel => exact ⟨k + 1, _, by omega, by go_num, bw, hK, HZ.out, B, R.out⟩
        case measure => simp [intOf]; omega
    · have : k = n := by omega
      subst this
      go_wp2_with fail
      go_end0
      exact ⟨cur, rfl, bw, hK, HZ.out, B, A⟩
end Go.Proofs.YtnokgdgikdgaeaaGreat

namespace Go.Proofs.YtnokgdgikdgaeaaGreat
open Go.RowKit

def upF (nv : Nat) (h : Nat → Int) (ups : Int) (l : Bool) (ix : Int) : Bool := if l then scopeB nv h ix else withinB ix ups
def upsF (nv : Nat) (h : Nat → Int) (ups : Int) (g : FD) : Bool := allB (fun i => upF nv h ups (g.ul i) (g.ui i)) 0 g.nu

set_option maxRecDepth 100000 in
set_option maxHeartbeats 1000000 in
theorem findsUps_in (u : UM) (wb : Nat) (f2 : Value) (ups : Int) (hb nv : Nat) (loops : Int) (sb nn : Nat) (cur : Array Value) (h : Nat → Int) (g : Nat) (w : World) (hg : g < u.nf) (hn : u.nf ≤ 1048576) (hu : (u.fm g).nu ≤ 1048576) (ha : u.At w) (W : WalkAt w wb (.slice u.fa u.nf u.fc) f2 ups hb nv loops sb nn) (B : Blk w hb 3 cur) (A : Arr cur nv h) :
    Calls Tryz.prog 66 #[.pointer (some ⟨wb, 0, none⟩), .int .i64 g] w fun e w' => e = .returned (.bool (upsF nv h ups (u.fm g).toFD)) ∧ Onw w w' := by
  obtain ⟨nf, fm, ua, uc⟩ := u
  simp only at *
  have hw : Hid (withinB (g : Int) nf = true) := by show _ = _; simp [withinB]; omega
  obtain ⟨b, off, hua, hc⟩ := ha.1 (by show 0 < nf; omega)
  simp only at hua
  subst hua
  have x := W.blk.cell
  have aU := (ha.2 g hg).2.1
  have c5 := (hc g hg).c5
  have zb := cell_lt c5
  have zw := W.blk.lt
  clear hc
  go_enter Tryz.func66, Tryz.ntmps66
  go_wp2_with fail
  refine (within_any _ _ _).mono ?_
  rintro e wx ⟨rfl, rfl⟩
  rw [hw.out]
  go_wp2_with fail
  obtain ⟨UA, hUA⟩ : ∃ UA, (fm g).ua = UA := ⟨_, rfl⟩
  rw [hUA] at aU c5 ⊢
  clear hUA c5
  go_loopw [24] (fun i wr => ∃ k : Nat, k ≤ (fm g).nu ∧ i = .int .i64 k ∧ Onw wx wr ∧ upsF nv h ups (fm g).toFD = allB (fun i => upF nv h ups ((fm g).ul i) ((fm g).ui i)) k ((fm g).nu - k)) (fun i _ => (fm g).nu - (intOf i).toNat)
  case atStart => exact ⟨0, Nat.zero_le _, rfl, Onw.refl _, rfl⟩
  case round =>
    clear x
    obtain ⟨k, hk, rfl, ob, hq⟩ := hrel
    have HQ : Hid _ := hq
    clear hq
    by_cases hlt : k < (fm g).nu
    · obtain ⟨ub, uo, rfl, hcc⟩ := aU.onw ob (by omega)
      obtain ⟨d0, d1⟩ := hcc k hlt
      clear hcc
      have zu := cell_lt d0
      have W1 : WalkAt wr wb (.slice (some ⟨b, off, none⟩) nf uc) f2 ups hb nv loops sb nn := ⟨W.blk.onw ob⟩
      have x := W1.blk.cell
      have B1 := B.onw ob
      have st : Hid (allB (fun i => upF nv h ups ((fm g).ul i) ((fm g).ui i)) k ((fm g).nu - k) = (upF nv h ups ((fm g).ul k) ((fm g).ui k) && allB (fun i => upF nv h ups ((fm g).ul i) ((fm g).ui i)) (k + 1) ((fm g).nu - (k + 1)))) := by
        show _ = _
        rw [show (fm g).nu - k = ((fm g).nu - (k + 1)) + 1 from by omega]; rfl
      cases hl : (fm g).ul k
      · have su : Hid (upF nv h ups ((fm g).ul k) ((fm g).ui k) = withinB ((fm g).ui k) ups) := by show _ = _; rw [hl]; rfl
        rw [hl] at d0
        have x2 : wr.cell? ⟨wb, 2, none⟩ = some (.int .i64 ups) := by rw [x]; rfl
        have zw1 : wb < wr.heap.size := W1.blk.lt
        clear x
        go_wp2_with fail
        cases hy : withinB ((fm g).ui k) ups
        all_goals
          go_region_held3 (fun w' => w'.cell? ⟨wr.heap.size, 0, none⟩ = some (.bool false) ∧ w'.cell? ⟨wr.heap.size, 1, none⟩ = some (.int .i64 ((fm g).ui k)) ∧ w'.cell? ⟨wb, 2, none⟩ = some (.int .i64 ups)) (go_keep)
            (first | (go_at_call 43; refine (within_any _ _ _).mono ?_; rintro e w1 ⟨rfl, rfl⟩; rw [hy]))
        · go_wp2_with fail
          go_ret
          exact ⟨ret_bool (by rw [HQ.out, st.out, su.out, hy]; rfl), Below.drew (ob.trans (Onw.alloc _ _))⟩
        · go_wp2_with fail
          go_roundw
          case rel => exact ⟨k + 1, by omega, by go_num, Below.drew (ob.trans (Onw.alloc _ _)), by rw [HQ.out, st.out, su.out, hy]; rfl⟩
          case measure => simp [intOf]; omega
      · have su : Hid (upF nv h ups ((fm g).ul k) ((fm g).ui k) = scopeB nv h ((fm g).ui k)) := by show _ = _; rw [hl]; rfl
        rw [hl] at d0
        have x2 : wr.cell? ⟨wb, 2, none⟩ = some (.int .i64 ups) := by rw [x]; rfl
        have zw1 : wb < wr.heap.size := W1.blk.lt
        go_wp2_with fail
        refine (inScope_any wb _ _ _ hb nv _ _ _ cur h _ _ ⟨W1.blk.onw (Onw.alloc _ _)⟩ (B1.onw (Onw.alloc _ _)) A).mono ?_
        rintro e w1 ⟨rfl, rfl⟩
        cases hy : scopeB nv h ((fm g).ui k)
        · go_wp2_with fail
          go_ret
          exact ⟨ret_bool (by rw [HQ.out, st.out, su.out, hy]; rfl), ob.trans (Onw.alloc _ _)⟩
        · go_wp2_with fail
          go_quiet (fail)
          go_wp2_with fail
          go_roundw
          case rel => exact ⟨k + 1, by omega, by go_num, below_drewN (ob.trans (Onw.alloc _ _)) _, by rw [HQ.out, st.out, su.out, hy]; rfl⟩
          case measure => simp [intOf]; omega
    · have st : Hid (allB (fun i => upF nv h ups ((fm g).ul i) ((fm g).ui i)) k ((fm g).nu - k) = true) := by
        show _ = _
        rw [show (fm g).nu - k = 0 from by omega]; rfl
      go_wp2_with fail
      go_ret
      exact ⟨ret_bool (by rw [HQ.out, st.out]), ob⟩

set_option maxHeartbeats 1000000 in
theorem findsUps_out (wb : Nat) (f2 : Value) (fa : Option Addr) (nf fc : Nat) (ups : Int) (hb nv : Nat) (loops : Int) (sb nn : Nat) (g : Int) (w : World) (hg : g < 0 ∨ (nf : Int) ≤ g) (W : WalkAt w wb (.slice fa nf fc) f2 ups hb nv loops sb nn) :
    Calls Tryz.prog 66 #[.pointer (some ⟨wb, 0, none⟩), .int .i64 g] w fun e w' => e = .returned (.bool false) ∧ Onw w w' := by
  have hw : Hid (withinB g nf = false) := by show _ = _; rw [← Bool.not_eq_true]; simp [withinB]; omega
  have x := W.blk.cell
  have zw := W.blk.lt
  clear hg
  go_enter Tryz.func66, Tryz.ntmps66
  go_wp2_with fail
  refine (within_any _ _ _).mono ?_
  rintro e wx ⟨rfl, rfl⟩
  rw [hw.out]
  go_wp2_with fail
  go_ret
  exact ⟨rfl, Onw.refl _⟩

/-- Is all there that fn g closes over? -/
def findsB (u : UD) (nv : Nat) (h : Nat → Int) (ups : Int) (g : Int) : Bool := withinB g u.nf && upsF nv h ups (u.fn g.toNat)

theorem findsUps_any (u : UM) (wb : Nat) (f2 : Value) (ups : Int) (hb nv : Nat) (loops : Int) (sb nn : Nat) (cur : Array Value) (h : Nat → Int) (g : Int) (w : World) (hn : u.nf ≤ 1048576) (hu : ∀ f, f < u.nf → (u.fm f).nu ≤ 1048576) (ha : u.At w) (W : WalkAt w wb (.slice u.fa u.nf u.fc) f2 ups hb nv loops sb nn) (B : Blk w hb 3 cur) (A : Arr cur nv h) :
    Calls Tryz.prog 66 #[.pointer (some ⟨wb, 0, none⟩), .int .i64 g] w fun e w' => e = .returned (.bool (findsB u.toUD nv h ups g)) ∧ Onw w w' := by
  by_cases hg : 0 ≤ g ∧ g < u.nf
  · obtain ⟨q, rfl⟩ := Int.eq_ofNat_of_zero_le hg.1
    have hq : q < u.nf := by omega
    refine (findsUps_in u wb f2 ups hb nv loops sb nn cur h q w hq hn (hu q hq) ha W B A).mono ?_
    rintro e w' ⟨rfl, h1⟩
    refine ⟨ret_bool ?_, h1⟩
    have : withinB (q : Int) u.toUD.nf = true := by simp [withinB]; exact hq
    rw [findsB, this]; rfl
  · refine (findsUps_out wb f2 u.fa u.nf u.fc ups hb nv loops sb nn g w (by omega) W).mono ?_
    rintro e w' ⟨rfl, h1⟩
    refine ⟨ret_bool ?_, h1⟩
    have : withinB g u.toUD.nf = false := by rw [← Bool.not_eq_true]; simp [withinB]; exact fun h0 => Int.not_lt.mp fun h1 => hg ⟨h0, h1⟩
    rw [findsB, this]; rfl
end Go.Proofs.YtnokgdgikdgaeaaGreat

namespace Go.Proofs.YtnokgdgikdgaeaaGreat
open Go.RowKit
attribute [local go_sem] run_store_float

/-- The type that a node's row has. -/
def formT (kind : Int) : TypeId :=
  if kind = 1 then 125 else
  if kind = 2 then 97 else
  if kind = 3 then 144 else
  if kind = 4 then 145 else
  if kind = 14 then 145 else
  if kind = 5 then 146 else
  if kind = 6 then 127 else
  if kind = 7 then 98 else
  if kind = 8 then 99 else
  if kind = 9 then 106 else
  if kind = 10 then 106 else
  if kind = 11 then 147 else
  if kind = 12 then 100 else
  if kind = 13 then 148 else
  if kind = 20 then 149 else
  if kind = 21 then 149 else
  if kind = 22 then 149 else
  if kind = 23 then 150 else
  if kind = 24 then 151 else
  if kind = 25 then 152 else
  if kind = 26 then 102 else
  if kind = 27 then 105 else
  if kind = 28 then 153 else
  if kind = 29 then 154 else
  if kind = 30 then 154 else
  if kind = 33 then 154 else
  if kind = 31 then 155 else
  if kind = 32 then 156 else
  if kind = 34 then 157 else
  if kind = 35 then 158 else
  if kind = 36 then 92 else
  if kind = 37 then 108 else
  if kind = 38 then 159 else
  121

set_option maxRecDepth 100000 in
set_option maxHeartbeats 4000000 in
theorem statementForm_any (m : NM) (p : Int) (kk : Option Addr) (kn kc : Nat) (w : World) (hs : statB m.kind = true) :
    Calls Tryz.prog 59 #[.agg #[.int .i64 p, .int .i64 m.kind, .int .i64 m.line, .int .i64 m.op, .int .i64 m.num, .float .f64 m.flt, .string m.str, .slice m.ra m.nr m.rc, .slice m.ka m.nk m.kc, .slice kk kn kc]] w fun e w' => e = .returned (.iface (formT m.kind) (.agg #[.int .i64 p, .int .i64 m.kind, .int .i64 m.line, .int .i64 m.op, .int .i64 m.num, .float .f64 m.flt, .string m.str, .slice m.ra m.nr m.rc, .slice m.ka m.nk m.kc, .slice kk kn kc])) ∧ Onw w w' := by
  have hs' : 1 ≤ m.kind ∧ m.kind ≤ 14 := by simpa [statB] using hs
  clear hs
  have cs : m.kind = 1 ∨ m.kind = 2 ∨ m.kind = 3 ∨ m.kind = 4 ∨ m.kind = 14 ∨ m.kind = 5 ∨ m.kind = 6 ∨ m.kind = 7 ∨ m.kind = 8 ∨ m.kind = 9 ∨ m.kind = 10 ∨ m.kind = 11 ∨ m.kind = 12 ∨ m.kind = 13 := by omega
  clear hs'
  rcases cs with hk | hk | hk | hk | hk | hk | hk | hk | hk | hk | hk | hk | hk | hk
  · have T : Hid (formT m.kind = 125) := by show _ = _; rw [hk]; rfl
    have e1 : (m.kind == 1) = true := by rw [hk]; rfl
    clear hk
    go_enter Tryz.func59, Tryz.ntmps59
    go_wp2_with fail
    go_ret
    exact ⟨by rw [T.out]; rfl, Onw.alloc _ _⟩
  · have T : Hid (formT m.kind = 97) := by show _ = _; rw [hk]; rfl
    have e1 : (m.kind == 1) = false := by rw [hk]; rfl
    have e2 : (m.kind == 2) = true := by rw [hk]; rfl
    clear hk
    go_enter Tryz.func59, Tryz.ntmps59
    go_wp2_with fail
    go_ret
    exact ⟨by rw [T.out]; rfl, Onw.alloc _ _⟩
  · have T : Hid (formT m.kind = 144) := by show _ = _; rw [hk]; rfl
    have e1 : (m.kind == 1) = false := by rw [hk]; rfl
    have e2 : (m.kind == 2) = false := by rw [hk]; rfl
    have e3 : (m.kind == 3) = true := by rw [hk]; rfl
    clear hk
    go_enter Tryz.func59, Tryz.ntmps59
    go_wp2_with fail
    go_ret
    exact ⟨by rw [T.out]; rfl, Onw.alloc _ _⟩
  · have T : Hid (formT m.kind = 145) := by show _ = _; rw [hk]; rfl
    have e1 : (m.kind == 1) = false := by rw [hk]; rfl
    have e2 : (m.kind == 2) = false := by rw [hk]; rfl
    have e3 : (m.kind == 3) = false := by rw [hk]; rfl
    have e4 : (m.kind == 4) = true := by rw [hk]; rfl
    clear hk
    go_enter Tryz.func59, Tryz.ntmps59
    go_wp2_with fail
    go_ret
    exact ⟨by rw [T.out]; rfl, Onw.alloc _ _⟩
  · have T : Hid (formT m.kind = 145) := by show _ = _; rw [hk]; rfl
    have e1 : (m.kind == 1) = false := by rw [hk]; rfl
    have e2 : (m.kind == 2) = false := by rw [hk]; rfl
    have e3 : (m.kind == 3) = false := by rw [hk]; rfl
    have e4 : (m.kind == 4) = false := by rw [hk]; rfl
    have e14 : (m.kind == 14) = true := by rw [hk]; rfl
    clear hk
    go_enter Tryz.func59, Tryz.ntmps59
    go_wp2_with fail
    go_ret
    exact ⟨by rw [T.out]; rfl, Onw.alloc _ _⟩
  · have T : Hid (formT m.kind = 146) := by show _ = _; rw [hk]; rfl
    have e1 : (m.kind == 1) = false := by rw [hk]; rfl
    have e2 : (m.kind == 2) = false := by rw [hk]; rfl
    have e3 : (m.kind == 3) = false := by rw [hk]; rfl
    have e4 : (m.kind == 4) = false := by rw [hk]; rfl
    have e14 : (m.kind == 14) = false := by rw [hk]; rfl
    have e5 : (m.kind == 5) = true := by rw [hk]; rfl
    clear hk
    go_enter Tryz.func59, Tryz.ntmps59
    go_wp2_with fail
    go_ret
    exact ⟨by rw [T.out]; rfl, Onw.alloc _ _⟩
  · have T : Hid (formT m.kind = 127) := by show _ = _; rw [hk]; rfl
    have e1 : (m.kind == 1) = false := by rw [hk]; rfl
    have e2 : (m.kind == 2) = false := by rw [hk]; rfl
    have e3 : (m.kind == 3) = false := by rw [hk]; rfl
    have e4 : (m.kind == 4) = false := by rw [hk]; rfl
    have e14 : (m.kind == 14) = false := by rw [hk]; rfl
    have e5 : (m.kind == 5) = false := by rw [hk]; rfl
    have e6 : (m.kind == 6) = true := by rw [hk]; rfl
    clear hk
    go_enter Tryz.func59, Tryz.ntmps59
    go_wp2_with fail
    go_ret
    exact ⟨by rw [T.out]; rfl, Onw.alloc _ _⟩
  · have T : Hid (formT m.kind = 98) := by show _ = _; rw [hk]; rfl
    have e1 : (m.kind == 1) = false := by rw [hk]; rfl
    have e2 : (m.kind == 2) = false := by rw [hk]; rfl
    have e3 : (m.kind == 3) = false := by rw [hk]; rfl
    have e4 : (m.kind == 4) = false := by rw [hk]; rfl
    have e14 : (m.kind == 14) = false := by rw [hk]; rfl
    have e5 : (m.kind == 5) = false := by rw [hk]; rfl
    have e6 : (m.kind == 6) = false := by rw [hk]; rfl
    have e7 : (m.kind == 7) = true := by rw [hk]; rfl
    clear hk
    go_enter Tryz.func59, Tryz.ntmps59
    go_wp2_with fail
    go_ret
    exact ⟨by rw [T.out]; rfl, Onw.alloc _ _⟩
  · have T : Hid (formT m.kind = 99) := by show _ = _; rw [hk]; rfl
    have e1 : (m.kind == 1) = false := by rw [hk]; rfl
    have e2 : (m.kind == 2) = false := by rw [hk]; rfl
    have e3 : (m.kind == 3) = false := by rw [hk]; rfl
    have e4 : (m.kind == 4) = false := by rw [hk]; rfl
    have e14 : (m.kind == 14) = false := by rw [hk]; rfl
    have e5 : (m.kind == 5) = false := by rw [hk]; rfl
    have e6 : (m.kind == 6) = false := by rw [hk]; rfl
    have e7 : (m.kind == 7) = false := by rw [hk]; rfl
    have e8 : (m.kind == 8) = true := by rw [hk]; rfl
    clear hk
    go_enter Tryz.func59, Tryz.ntmps59
    go_wp2_with fail
    go_ret
    exact ⟨by rw [T.out]; rfl, Onw.alloc _ _⟩
  · have T : Hid (formT m.kind = 106) := by show _ = _; rw [hk]; rfl
    have e1 : (m.kind == 1) = false := by rw [hk]; rfl
    have e2 : (m.kind == 2) = false := by rw [hk]; rfl
    have e3 : (m.kind == 3) = false := by rw [hk]; rfl
    have e4 : (m.kind == 4) = false := by rw [hk]; rfl
    have e14 : (m.kind == 14) = false := by rw [hk]; rfl
    have e5 : (m.kind == 5) = false := by rw [hk]; rfl
    have e6 : (m.kind == 6) = false := by rw [hk]; rfl
    have e7 : (m.kind == 7) = false := by rw [hk]; rfl
    have e8 : (m.kind == 8) = false := by rw [hk]; rfl
    have e9 : (m.kind == 9) = true := by rw [hk]; rfl
    clear hk
    go_enter Tryz.func59, Tryz.ntmps59
    go_wp2_with fail
    go_ret
    exact ⟨by rw [T.out]; rfl, Onw.alloc _ _⟩
  · have T : Hid (formT m.kind = 106) := by show _ = _; rw [hk]; rfl
    have e1 : (m.kind == 1) = false := by rw [hk]; rfl
    have e2 : (m.kind == 2) = false := by rw [hk]; rfl
    have e3 : (m.kind == 3) = false := by rw [hk]; rfl
    have e4 : (m.kind == 4) = false := by rw [hk]; rfl
    have e14 : (m.kind == 14) = false := by rw [hk]; rfl
    have e5 : (m.kind == 5) = false := by rw [hk]; rfl
    have e6 : (m.kind == 6) = false := by rw [hk]; rfl
    have e7 : (m.kind == 7) = false := by rw [hk]; rfl
    have e8 : (m.kind == 8) = false := by rw [hk]; rfl
    have e9 : (m.kind == 9) = false := by rw [hk]; rfl
    have e10 : (m.kind == 10) = true := by rw [hk]; rfl
    clear hk
    go_enter Tryz.func59, Tryz.ntmps59
    go_wp2_with fail
    go_ret
    exact ⟨by rw [T.out]; rfl, Onw.alloc _ _⟩
  · have T : Hid (formT m.kind = 147) := by show _ = _; rw [hk]; rfl
    have e1 : (m.kind == 1) = false := by rw [hk]; rfl
    have e2 : (m.kind == 2) = false := by rw [hk]; rfl
    have e3 : (m.kind == 3) = false := by rw [hk]; rfl
    have e4 : (m.kind == 4) = false := by rw [hk]; rfl
    have e14 : (m.kind == 14) = false := by rw [hk]; rfl
    have e5 : (m.kind == 5) = false := by rw [hk]; rfl
    have e6 : (m.kind == 6) = false := by rw [hk]; rfl
    have e7 : (m.kind == 7) = false := by rw [hk]; rfl
    have e8 : (m.kind == 8) = false := by rw [hk]; rfl
    have e9 : (m.kind == 9) = false := by rw [hk]; rfl
    have e10 : (m.kind == 10) = false := by rw [hk]; rfl
    have e11 : (m.kind == 11) = true := by rw [hk]; rfl
    clear hk
    go_enter Tryz.func59, Tryz.ntmps59
    go_wp2_with fail
    go_ret
    exact ⟨by rw [T.out]; rfl, Onw.alloc _ _⟩
  · have T : Hid (formT m.kind = 100) := by show _ = _; rw [hk]; rfl
    have e1 : (m.kind == 1) = false := by rw [hk]; rfl
    have e2 : (m.kind == 2) = false := by rw [hk]; rfl
    have e3 : (m.kind == 3) = false := by rw [hk]; rfl
    have e4 : (m.kind == 4) = false := by rw [hk]; rfl
    have e14 : (m.kind == 14) = false := by rw [hk]; rfl
    have e5 : (m.kind == 5) = false := by rw [hk]; rfl
    have e6 : (m.kind == 6) = false := by rw [hk]; rfl
    have e7 : (m.kind == 7) = false := by rw [hk]; rfl
    have e8 : (m.kind == 8) = false := by rw [hk]; rfl
    have e9 : (m.kind == 9) = false := by rw [hk]; rfl
    have e10 : (m.kind == 10) = false := by rw [hk]; rfl
    have e11 : (m.kind == 11) = false := by rw [hk]; rfl
    have e12 : (m.kind == 12) = true := by rw [hk]; rfl
    clear hk
    go_enter Tryz.func59, Tryz.ntmps59
    go_wp2_with fail
    go_ret
    exact ⟨by rw [T.out]; rfl, Onw.alloc _ _⟩
  · have T : Hid (formT m.kind = 148) := by show _ = _; rw [hk]; rfl
    have e1 : (m.kind == 1) = false := by rw [hk]; rfl
    have e2 : (m.kind == 2) = false := by rw [hk]; rfl
    have e3 : (m.kind == 3) = false := by rw [hk]; rfl
    have e4 : (m.kind == 4) = false := by rw [hk]; rfl
    have e14 : (m.kind == 14) = false := by rw [hk]; rfl
    have e5 : (m.kind == 5) = false := by rw [hk]; rfl
    have e6 : (m.kind == 6) = false := by rw [hk]; rfl
    have e7 : (m.kind == 7) = false := by rw [hk]; rfl
    have e8 : (m.kind == 8) = false := by rw [hk]; rfl
    have e9 : (m.kind == 9) = false := by rw [hk]; rfl
    have e10 : (m.kind == 10) = false := by rw [hk]; rfl
    have e11 : (m.kind == 11) = false := by rw [hk]; rfl
    have e12 : (m.kind == 12) = false := by rw [hk]; rfl
    have e13 : (m.kind == 13) = true := by rw [hk]; rfl
    clear hk
    go_enter Tryz.func59, Tryz.ntmps59
    go_wp2_with fail
    go_ret
    exact ⟨by rw [T.out]; rfl, Onw.alloc _ _⟩

set_option maxRecDepth 100000 in
set_option maxHeartbeats 4000000 in
theorem expressionForm_any (m : NM) (p : Int) (kk : Option Addr) (kn kc : Nat) (w : World) (hs : statB m.kind = false) :
    Calls Tryz.prog 60 #[.agg #[.int .i64 p, .int .i64 m.kind, .int .i64 m.line, .int .i64 m.op, .int .i64 m.num, .float .f64 m.flt, .string m.str, .slice m.ra m.nr m.rc, .slice m.ka m.nk m.kc, .slice kk kn kc]] w fun e w' => e = .returned (.iface (formT m.kind) (.agg #[.int .i64 p, .int .i64 m.kind, .int .i64 m.line, .int .i64 m.op, .int .i64 m.num, .float .f64 m.flt, .string m.str, .slice m.ra m.nr m.rc, .slice m.ka m.nk m.kc, .slice kk kn kc])) ∧ Onw w w' := by
  have hs' : ¬ (1 ≤ m.kind ∧ m.kind ≤ 14) := by
    intro h
    rw [← Bool.not_eq_true] at hs
    apply hs
    simpa [statB] using h
  clear hs
  have cs : m.kind = 20 ∨ m.kind = 21 ∨ m.kind = 22 ∨ m.kind = 23 ∨ m.kind = 24 ∨ m.kind = 25 ∨ m.kind = 26 ∨ m.kind = 27 ∨ m.kind = 28 ∨ m.kind = 29 ∨ m.kind = 30 ∨ m.kind = 33 ∨ m.kind = 31 ∨ m.kind = 32 ∨ m.kind = 34 ∨ m.kind = 35 ∨ m.kind = 36 ∨ m.kind = 37 ∨ m.kind = 38 ∨ (m.kind ≠ 20 ∧ m.kind ≠ 21 ∧ m.kind ≠ 22 ∧ m.kind ≠ 23 ∧ m.kind ≠ 24 ∧ m.kind ≠ 25 ∧ m.kind ≠ 26 ∧ m.kind ≠ 27 ∧ m.kind ≠ 28 ∧ m.kind ≠ 29 ∧ m.kind ≠ 30 ∧ m.kind ≠ 33 ∧ m.kind ≠ 31 ∧ m.kind ≠ 32 ∧ m.kind ≠ 34 ∧ m.kind ≠ 35 ∧ m.kind ≠ 36 ∧ m.kind ≠ 37 ∧ m.kind ≠ 38) := by omega
  rcases cs with hk | hk | hk | hk | hk | hk | hk | hk | hk | hk | hk | hk | hk | hk | hk | hk | hk | hk | hk | ⟨h20, h21, h22, h23, h24, h25, h26, h27, h28, h29, h30, h33, h31, h32, h34, h35, h36, h37, h38⟩
  · have T : Hid (formT m.kind = 149) := by show _ = _; rw [hk]; rfl
    have e20 : (m.kind == 20) = true := by rw [hk]; rfl
    clear hk hs'
    go_enter Tryz.func60, Tryz.ntmps60
    go_wp2_with fail
    go_ret
    exact ⟨by rw [T.out]; rfl, Onw.alloc _ _⟩
  · have T : Hid (formT m.kind = 149) := by show _ = _; rw [hk]; rfl
    have e20 : (m.kind == 20) = false := by rw [hk]; rfl
    have e21 : (m.kind == 21) = true := by rw [hk]; rfl
    clear hk hs'
    go_enter Tryz.func60, Tryz.ntmps60
    go_wp2_with fail
    go_ret
    exact ⟨by rw [T.out]; rfl, Onw.alloc _ _⟩
  · have T : Hid (formT m.kind = 149) := by show _ = _; rw [hk]; rfl
    have e20 : (m.kind == 20) = false := by rw [hk]; rfl
    have e21 : (m.kind == 21) = false := by rw [hk]; rfl
    have e22 : (m.kind == 22) = true := by rw [hk]; rfl
    clear hk hs'
    go_enter Tryz.func60, Tryz.ntmps60
    go_wp2_with fail
    go_ret
    exact ⟨by rw [T.out]; rfl, Onw.alloc _ _⟩
  · have T : Hid (formT m.kind = 150) := by show _ = _; rw [hk]; rfl
    have e20 : (m.kind == 20) = false := by rw [hk]; rfl
    have e21 : (m.kind == 21) = false := by rw [hk]; rfl
    have e22 : (m.kind == 22) = false := by rw [hk]; rfl
    have e23 : (m.kind == 23) = true := by rw [hk]; rfl
    clear hk hs'
    go_enter Tryz.func60, Tryz.ntmps60
    go_wp2_with fail
    go_ret
    exact ⟨by rw [T.out]; rfl, Onw.alloc _ _⟩
  · have T : Hid (formT m.kind = 151) := by show _ = _; rw [hk]; rfl
    have e20 : (m.kind == 20) = false := by rw [hk]; rfl
    have e21 : (m.kind == 21) = false := by rw [hk]; rfl
    have e22 : (m.kind == 22) = false := by rw [hk]; rfl
    have e23 : (m.kind == 23) = false := by rw [hk]; rfl
    have e24 : (m.kind == 24) = true := by rw [hk]; rfl
    clear hk hs'
    go_enter Tryz.func60, Tryz.ntmps60
    go_wp2_with fail
    go_ret
    exact ⟨by rw [T.out]; rfl, Onw.alloc _ _⟩
  · have T : Hid (formT m.kind = 152) := by show _ = _; rw [hk]; rfl
    have e20 : (m.kind == 20) = false := by rw [hk]; rfl
    have e21 : (m.kind == 21) = false := by rw [hk]; rfl
    have e22 : (m.kind == 22) = false := by rw [hk]; rfl
    have e23 : (m.kind == 23) = false := by rw [hk]; rfl
    have e24 : (m.kind == 24) = false := by rw [hk]; rfl
    have e25 : (m.kind == 25) = true := by rw [hk]; rfl
    clear hk hs'
    go_enter Tryz.func60, Tryz.ntmps60
    go_wp2_with fail
    go_ret
    exact ⟨by rw [T.out]; rfl, Onw.alloc _ _⟩
  · have T : Hid (formT m.kind = 102) := by show _ = _; rw [hk]; rfl
    have e20 : (m.kind == 20) = false := by rw [hk]; rfl
    have e21 : (m.kind == 21) = false := by rw [hk]; rfl
    have e22 : (m.kind == 22) = false := by rw [hk]; rfl
    have e23 : (m.kind == 23) = false := by rw [hk]; rfl
    have e24 : (m.kind == 24) = false := by rw [hk]; rfl
    have e25 : (m.kind == 25) = false := by rw [hk]; rfl
    have e26 : (m.kind == 26) = true := by rw [hk]; rfl
    clear hk hs'
    go_enter Tryz.func60, Tryz.ntmps60
    go_wp2_with fail
    go_ret
    exact ⟨by rw [T.out]; rfl, Onw.alloc _ _⟩
  · have T : Hid (formT m.kind = 105) := by show _ = _; rw [hk]; rfl
    have e20 : (m.kind == 20) = false := by rw [hk]; rfl
    have e21 : (m.kind == 21) = false := by rw [hk]; rfl
    have e22 : (m.kind == 22) = false := by rw [hk]; rfl
    have e23 : (m.kind == 23) = false := by rw [hk]; rfl
    have e24 : (m.kind == 24) = false := by rw [hk]; rfl
    have e25 : (m.kind == 25) = false := by rw [hk]; rfl
    have e26 : (m.kind == 26) = false := by rw [hk]; rfl
    have e27 : (m.kind == 27) = true := by rw [hk]; rfl
    clear hk hs'
    go_enter Tryz.func60, Tryz.ntmps60
    go_wp2_with fail
    go_ret
    exact ⟨by rw [T.out]; rfl, Onw.alloc _ _⟩
  · have T : Hid (formT m.kind = 153) := by show _ = _; rw [hk]; rfl
    have e20 : (m.kind == 20) = false := by rw [hk]; rfl
    have e21 : (m.kind == 21) = false := by rw [hk]; rfl
    have e22 : (m.kind == 22) = false := by rw [hk]; rfl
    have e23 : (m.kind == 23) = false := by rw [hk]; rfl
    have e24 : (m.kind == 24) = false := by rw [hk]; rfl
    have e25 : (m.kind == 25) = false := by rw [hk]; rfl
    have e26 : (m.kind == 26) = false := by rw [hk]; rfl
    have e27 : (m.kind == 27) = false := by rw [hk]; rfl
    have e28 : (m.kind == 28) = true := by rw [hk]; rfl
    clear hk hs'
    go_enter Tryz.func60, Tryz.ntmps60
    go_wp2_with fail
    go_ret
    exact ⟨by rw [T.out]; rfl, Onw.alloc _ _⟩
  · have T : Hid (formT m.kind = 154) := by show _ = _; rw [hk]; rfl
    have e20 : (m.kind == 20) = false := by rw [hk]; rfl
    have e21 : (m.kind == 21) = false := by rw [hk]; rfl
    have e22 : (m.kind == 22) = false := by rw [hk]; rfl
    have e23 : (m.kind == 23) = false := by rw [hk]; rfl
    have e24 : (m.kind == 24) = false := by rw [hk]; rfl
    have e25 : (m.kind == 25) = false := by rw [hk]; rfl
    have e26 : (m.kind == 26) = false := by rw [hk]; rfl
    have e27 : (m.kind == 27) = false := by rw [hk]; rfl
    have e28 : (m.kind == 28) = false := by rw [hk]; rfl
    have e29 : (m.kind == 29) = true := by rw [hk]; rfl
    clear hk hs'
    go_enter Tryz.func60, Tryz.ntmps60
    go_wp2_with fail
    go_ret
    exact ⟨by rw [T.out]; rfl, Onw.alloc _ _⟩
  · have T : Hid (formT m.kind = 154) := by show _ = _; rw [hk]; rfl
    have e20 : (m.kind == 20) = false := by rw [hk]; rfl
    have e21 : (m.kind == 21) = false := by rw [hk]; rfl
    have e22 : (m.kind == 22) = false := by rw [hk]; rfl
    have e23 : (m.kind == 23) = false := by rw [hk]; rfl
    have e24 : (m.kind == 24) = false := by rw [hk]; rfl
    have e25 : (m.kind == 25) = false := by rw [hk]; rfl
    have e26 : (m.kind == 26) = false := by rw [hk]; rfl
    have e27 : (m.kind == 27) = false := by rw [hk]; rfl
    have e28 : (m.kind == 28) = false := by rw [hk]; rfl
    have e29 : (m.kind == 29) = false := by rw [hk]; rfl
    have e30 : (m.kind == 30) = true := by rw [hk]; rfl
    clear hk hs'
    go_enter Tryz.func60, Tryz.ntmps60
    go_wp2_with fail
    go_ret
    exact ⟨by rw [T.out]; rfl, Onw.alloc _ _⟩
  · have T : Hid (formT m.kind = 154) := by show _ = _; rw [hk]; rfl
    have e20 : (m.kind == 20) = false := by rw [hk]; rfl
    have e21 : (m.kind == 21) = false := by rw [hk]; rfl
    have e22 : (m.kind == 22) = false := by rw [hk]; rfl
    have e23 : (m.kind == 23) = false := by rw [hk]; rfl
    have e24 : (m.kind == 24) = false := by rw [hk]; rfl
    have e25 : (m.kind == 25) = false := by rw [hk]; rfl
    have e26 : (m.kind == 26) = false := by rw [hk]; rfl
    have e27 : (m.kind == 27) = false := by rw [hk]; rfl
    have e28 : (m.kind == 28) = false := by rw [hk]; rfl
    have e29 : (m.kind == 29) = false := by rw [hk]; rfl
    have e30 : (m.kind == 30) = false := by rw [hk]; rfl
    have e33 : (m.kind == 33) = true := by rw [hk]; rfl
    clear hk hs'
    go_enter Tryz.func60, Tryz.ntmps60
    go_wp2_with fail
    go_ret
    exact ⟨by rw [T.out]; rfl, Onw.alloc _ _⟩
  · have T : Hid (formT m.kind = 155) := by show _ = _; rw [hk]; rfl
    have e20 : (m.kind == 20) = false := by rw [hk]; rfl
    have e21 : (m.kind == 21) = false := by rw [hk]; rfl
    have e22 : (m.kind == 22) = false := by rw [hk]; rfl
    have e23 : (m.kind == 23) = false := by rw [hk]; rfl
    have e24 : (m.kind == 24) = false := by rw [hk]; rfl
    have e25 : (m.kind == 25) = false := by rw [hk]; rfl
    have e26 : (m.kind == 26) = false := by rw [hk]; rfl
    have e27 : (m.kind == 27) = false := by rw [hk]; rfl
    have e28 : (m.kind == 28) = false := by rw [hk]; rfl
    have e29 : (m.kind == 29) = false := by rw [hk]; rfl
    have e30 : (m.kind == 30) = false := by rw [hk]; rfl
    have e33 : (m.kind == 33) = false := by rw [hk]; rfl
    have e31 : (m.kind == 31) = true := by rw [hk]; rfl
    clear hk hs'
    go_enter Tryz.func60, Tryz.ntmps60
    go_wp2_with fail
    go_ret
    exact ⟨by rw [T.out]; rfl, Onw.alloc _ _⟩
  · have T : Hid (formT m.kind = 156) := by show _ = _; rw [hk]; rfl
    have e20 : (m.kind == 20) = false := by rw [hk]; rfl
    have e21 : (m.kind == 21) = false := by rw [hk]; rfl
    have e22 : (m.kind == 22) = false := by rw [hk]; rfl
    have e23 : (m.kind == 23) = false := by rw [hk]; rfl
    have e24 : (m.kind == 24) = false := by rw [hk]; rfl
    have e25 : (m.kind == 25) = false := by rw [hk]; rfl
    have e26 : (m.kind == 26) = false := by rw [hk]; rfl
    have e27 : (m.kind == 27) = false := by rw [hk]; rfl
    have e28 : (m.kind == 28) = false := by rw [hk]; rfl
    have e29 : (m.kind == 29) = false := by rw [hk]; rfl
    have e30 : (m.kind == 30) = false := by rw [hk]; rfl
    have e33 : (m.kind == 33) = false := by rw [hk]; rfl
    have e31 : (m.kind == 31) = false := by rw [hk]; rfl
    have e32 : (m.kind == 32) = true := by rw [hk]; rfl
    clear hk hs'
    go_enter Tryz.func60, Tryz.ntmps60
    go_wp2_with fail
    go_ret
    exact ⟨by rw [T.out]; rfl, Onw.alloc _ _⟩
  · have T : Hid (formT m.kind = 157) := by show _ = _; rw [hk]; rfl
    have e20 : (m.kind == 20) = false := by rw [hk]; rfl
    have e21 : (m.kind == 21) = false := by rw [hk]; rfl
    have e22 : (m.kind == 22) = false := by rw [hk]; rfl
    have e23 : (m.kind == 23) = false := by rw [hk]; rfl
    have e24 : (m.kind == 24) = false := by rw [hk]; rfl
    have e25 : (m.kind == 25) = false := by rw [hk]; rfl
    have e26 : (m.kind == 26) = false := by rw [hk]; rfl
    have e27 : (m.kind == 27) = false := by rw [hk]; rfl
    have e28 : (m.kind == 28) = false := by rw [hk]; rfl
    have e29 : (m.kind == 29) = false := by rw [hk]; rfl
    have e30 : (m.kind == 30) = false := by rw [hk]; rfl
    have e33 : (m.kind == 33) = false := by rw [hk]; rfl
    have e31 : (m.kind == 31) = false := by rw [hk]; rfl
    have e32 : (m.kind == 32) = false := by rw [hk]; rfl
    have e34 : (m.kind == 34) = true := by rw [hk]; rfl
    clear hk hs'
    go_enter Tryz.func60, Tryz.ntmps60
    go_wp2_with fail
    go_ret
    exact ⟨by rw [T.out]; rfl, Onw.alloc _ _⟩
  · have T : Hid (formT m.kind = 158) := by show _ = _; rw [hk]; rfl
    have e20 : (m.kind == 20) = false := by rw [hk]; rfl
    have e21 : (m.kind == 21) = false := by rw [hk]; rfl
    have e22 : (m.kind == 22) = false := by rw [hk]; rfl
    have e23 : (m.kind == 23) = false := by rw [hk]; rfl
    have e24 : (m.kind == 24) = false := by rw [hk]; rfl
    have e25 : (m.kind == 25) = false := by rw [hk]; rfl
    have e26 : (m.kind == 26) = false := by rw [hk]; rfl
    have e27 : (m.kind == 27) = false := by rw [hk]; rfl
    have e28 : (m.kind == 28) = false := by rw [hk]; rfl
    have e29 : (m.kind == 29) = false := by rw [hk]; rfl
    have e30 : (m.kind == 30) = false := by rw [hk]; rfl
    have e33 : (m.kind == 33) = false := by rw [hk]; rfl
    have e31 : (m.kind == 31) = false := by rw [hk]; rfl
    have e32 : (m.kind == 32) = false := by rw [hk]; rfl
    have e34 : (m.kind == 34) = false := by rw [hk]; rfl
    have e35 : (m.kind == 35) = true := by rw [hk]; rfl
    clear hk hs'
    go_enter Tryz.func60, Tryz.ntmps60
    go_wp2_with fail
    go_ret
    exact ⟨by rw [T.out]; rfl, Onw.alloc _ _⟩
  · have T : Hid (formT m.kind = 92) := by show _ = _; rw [hk]; rfl
    have e20 : (m.kind == 20) = false := by rw [hk]; rfl
    have e21 : (m.kind == 21) = false := by rw [hk]; rfl
    have e22 : (m.kind == 22) = false := by rw [hk]; rfl
    have e23 : (m.kind == 23) = false := by rw [hk]; rfl
    have e24 : (m.kind == 24) = false := by rw [hk]; rfl
    have e25 : (m.kind == 25) = false := by rw [hk]; rfl
    have e26 : (m.kind == 26) = false := by rw [hk]; rfl
    have e27 : (m.kind == 27) = false := by rw [hk]; rfl
    have e28 : (m.kind == 28) = false := by rw [hk]; rfl
    have e29 : (m.kind == 29) = false := by rw [hk]; rfl
    have e30 : (m.kind == 30) = false := by rw [hk]; rfl
    have e33 : (m.kind == 33) = false := by rw [hk]; rfl
    have e31 : (m.kind == 31) = false := by rw [hk]; rfl
    have e32 : (m.kind == 32) = false := by rw [hk]; rfl
    have e34 : (m.kind == 34) = false := by rw [hk]; rfl
    have e35 : (m.kind == 35) = false := by rw [hk]; rfl
    have e36 : (m.kind == 36) = true := by rw [hk]; rfl
    clear hk hs'
    go_enter Tryz.func60, Tryz.ntmps60
    go_wp2_with fail
    go_ret
    exact ⟨by rw [T.out]; rfl, Onw.alloc _ _⟩
  · have T : Hid (formT m.kind = 108) := by show _ = _; rw [hk]; rfl
    have e20 : (m.kind == 20) = false := by rw [hk]; rfl
    have e21 : (m.kind == 21) = false := by rw [hk]; rfl
    have e22 : (m.kind == 22) = false := by rw [hk]; rfl
    have e23 : (m.kind == 23) = false := by rw [hk]; rfl
    have e24 : (m.kind == 24) = false := by rw [hk]; rfl
    have e25 : (m.kind == 25) = false := by rw [hk]; rfl
    have e26 : (m.kind == 26) = false := by rw [hk]; rfl
    have e27 : (m.kind == 27) = false := by rw [hk]; rfl
    have e28 : (m.kind == 28) = false := by rw [hk]; rfl
    have e29 : (m.kind == 29) = false := by rw [hk]; rfl
    have e30 : (m.kind == 30) = false := by rw [hk]; rfl
    have e33 : (m.kind == 33) = false := by rw [hk]; rfl
    have e31 : (m.kind == 31) = false := by rw [hk]; rfl
    have e32 : (m.kind == 32) = false := by rw [hk]; rfl
    have e34 : (m.kind == 34) = false := by rw [hk]; rfl
    have e35 : (m.kind == 35) = false := by rw [hk]; rfl
    have e36 : (m.kind == 36) = false := by rw [hk]; rfl
    have e37 : (m.kind == 37) = true := by rw [hk]; rfl
    clear hk hs'
    go_enter Tryz.func60, Tryz.ntmps60
    go_wp2_with fail
    go_ret
    exact ⟨by rw [T.out]; rfl, Onw.alloc _ _⟩
  · have T : Hid (formT m.kind = 159) := by show _ = _; rw [hk]; rfl
    have e20 : (m.kind == 20) = false := by rw [hk]; rfl
    have e21 : (m.kind == 21) = false := by rw [hk]; rfl
    have e22 : (m.kind == 22) = false := by rw [hk]; rfl
    have e23 : (m.kind == 23) = false := by rw [hk]; rfl
    have e24 : (m.kind == 24) = false := by rw [hk]; rfl
    have e25 : (m.kind == 25) = false := by rw [hk]; rfl
    have e26 : (m.kind == 26) = false := by rw [hk]; rfl
    have e27 : (m.kind == 27) = false := by rw [hk]; rfl
    have e28 : (m.kind == 28) = false := by rw [hk]; rfl
    have e29 : (m.kind == 29) = false := by rw [hk]; rfl
    have e30 : (m.kind == 30) = false := by rw [hk]; rfl
    have e33 : (m.kind == 33) = false := by rw [hk]; rfl
    have e31 : (m.kind == 31) = false := by rw [hk]; rfl
    have e32 : (m.kind == 32) = false := by rw [hk]; rfl
    have e34 : (m.kind == 34) = false := by rw [hk]; rfl
    have e35 : (m.kind == 35) = false := by rw [hk]; rfl
    have e36 : (m.kind == 36) = false := by rw [hk]; rfl
    have e37 : (m.kind == 37) = false := by rw [hk]; rfl
    have e38 : (m.kind == 38) = true := by rw [hk]; rfl
    clear hk hs'
    go_enter Tryz.func60, Tryz.ntmps60
    go_wp2_with fail
    go_ret
    exact ⟨by rw [T.out]; rfl, Onw.alloc _ _⟩
  · have T : Hid (formT m.kind = 121) := by
      show _ = _
      unfold formT
      repeat (rw [if_neg (by omega)])
    have e20 : (m.kind == 20) = false := by simp [h20]
    have e21 : (m.kind == 21) = false := by simp [h21]
    have e22 : (m.kind == 22) = false := by simp [h22]
    have e23 : (m.kind == 23) = false := by simp [h23]
    have e24 : (m.kind == 24) = false := by simp [h24]
    have e25 : (m.kind == 25) = false := by simp [h25]
    have e26 : (m.kind == 26) = false := by simp [h26]
    have e27 : (m.kind == 27) = false := by simp [h27]
    have e28 : (m.kind == 28) = false := by simp [h28]
    have e29 : (m.kind == 29) = false := by simp [h29]
    have e30 : (m.kind == 30) = false := by simp [h30]
    have e33 : (m.kind == 33) = false := by simp [h33]
    have e31 : (m.kind == 31) = false := by simp [h31]
    have e32 : (m.kind == 32) = false := by simp [h32]
    have e34 : (m.kind == 34) = false := by simp [h34]
    have e35 : (m.kind == 35) = false := by simp [h35]
    have e36 : (m.kind == 36) = false := by simp [h36]
    have e37 : (m.kind == 37) = false := by simp [h37]
    have e38 : (m.kind == 38) = false := by simp [h38]
    clear hs' h20 h21 h22 h23 h24 h25 h26 h27 h28 h29 h30 h33 h31 h32 h34 h35 h36 h37 h38
    go_enter Tryz.func60, Tryz.ntmps60
    go_wp2_with fail
    go_ret
    exact ⟨by rw [T.out]; rfl, Onw.alloc _ _⟩
end Go.Proofs.YtnokgdgikdgaeaaGreat
