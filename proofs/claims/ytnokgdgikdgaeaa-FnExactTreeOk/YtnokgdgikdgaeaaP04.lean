import Derived.Test.YtnokgdgikdgaeaaP03
import Derived.Test.YtnokgdgikdgaeaaP00
namespace Go.Proofs.Ytnokgdgikdgaeaa
open Go.RowKit
attribute [local go_sem] run_store_float

/-- Has a row's bits one of these? -/
def hasR (a r : Int) : Bool := !(bits .and .i64 a r == 0)

set_option maxRecDepth 100000 in
set_option maxHeartbeats 2000000 in
theorem standAs_any (a : Option Addr) (n c : Nat) (q : Nat → Option PX) (r : Int) (w : World) (hn : n ≤ 1048576) (ha : ValsAt w a n (fun j => pv (q j))) :
    Calls Try.prog 45 #[.slice a n c, .int .i64 r] w fun e w' => e = .returned (.bool (allB (fun i => hasR (roleO (q i)) r) 0 n)) ∧ Onw w w' := by
  go_enter Try.func45, Try.ntmps45
  go_wp2_with fail
  go_loopw [9] (fun i wr => ∃ k : Nat, k ≤ n ∧ i = .int .i64 k ∧ Onw w wr ∧ allB (fun i => hasR (roleO (q i)) r) 0 n = allB (fun i => hasR (roleO (q i)) r) k (n - k)) (fun i _ => n - (intOf i).toNat)
  case atStart => exact ⟨0, Nat.zero_le _, rfl, Onw.refl _, rfl⟩
  case round =>
    obtain ⟨k, hk, rfl, ob, hr⟩ := hrel
    have HR : Hid _ := hr
    clear hr
    by_cases hlt : k < n
    · obtain ⟨b, off, rfl, hc⟩ := ha.onw ob (by omega)
      have hck : wr.cell? ⟨b, off + k, none⟩ = some (pv (q k)) := hc k hlt
      have zb := cell_lt hck
      clear hc
      have hst : Hid (allB (fun i => hasR (roleO (q i)) r) k (n - k) = (hasR (roleO (q k)) r && allB (fun i => hasR (roleO (q i)) r) (k + 1) (n - (k + 1)))) := by
        show _ = _
        rw [show n - k = (n - (k + 1)) + 1 from by omega]; rfl
      have R := rolesOf_any (q k)
      have HH : Hid (hasR (roleO (q k)) r = !(bits .and .i64 (roleO (q k)) r == 0)) := rfl
      generalize roleO (q k) = ro at R HH hst
      generalize pv (q k) = v at R hck
      go_wp2_with fail
      refine (R _).mono ?_
      rintro e w1 ⟨rfl, hb1⟩
      cases hx : (bits .and .i64 ro r == 0)
      · go_wp2_with fail
        go_roundw
        case rel => exact ⟨k + 1, by omega, by go_num, ob.trans hb1, by rw [HR.out, hst.out, HH.out, hx]; rfl⟩
        case measure => simp [intOf]; omega
      · go_wp2_with fail
        go_ret
        exact ⟨ret_bool (by rw [HR.out, hst.out, HH.out, hx]; rfl), ob.trans hb1⟩
    · have hst : Hid (allB (fun i => hasR (roleO (q i)) r) k (n - k) = true) := by
        show _ = _
        rw [show n - k = 0 from by omega]; rfl
      go_wp2_with fail
      go_ret
      exact ⟨ret_bool (by rw [HR.out, hst.out]), ob⟩

set_option maxRecDepth 100000 in
set_option maxHeartbeats 2000000 in
theorem kidsAre_any (m : PM) (p : Int) (kk : Option Addr) (kn kc : Nat) (q : Nat → Option PX) (ca : Option Addr) (cn cc : Nat) (cf : Nat → Int) (w : World) (hn : kn ≤ 1048576) (hk : ValsAt w kk kn (fun j => pv (q j))) (ha : IntsAt w ca cn cf) :
    Calls Try.prog 47 #[.agg #[.int .i64 p, .int .i64 m.kind, .int .i64 m.frm, .int .i64 m.tto, .int .i64 m.line, .int .i64 m.op, .int .i64 m.num, .float .f64 m.flt, .string m.text, .slice m.na m.nn m.nc, .slice m.ka m.nk m.kc, .slice kk kn kc], .slice ca cn cc] w fun e w' => e = .returned (.bool ((kn : Int) == cn && allB (fun i => hasR (roleO (q i)) (cf i)) 0 cn)) ∧ Onw w w' := by
  by_cases e1 : kn = cn
  · subst e1
    have fin : Hid (((kn : Int) == kn && allB (fun i => hasR (roleO (q i)) (cf i)) 0 kn) = allB (fun i => hasR (roleO (q i)) (cf i)) 0 kn) := by show _ = _; simp
    have N0 := Blk.new w 60 #[.int .i64 p, .int .i64 m.kind, .int .i64 m.frm, .int .i64 m.tto, .int .i64 m.line, .int .i64 m.op, .int .i64 m.num, .float .f64 m.flt, .string m.text, .slice m.na m.nn m.nc, .slice m.ka m.nk m.kc, .slice kk kn kc]
    have O0 := Onw.alloc w (Obj.cells #[.int .i64 p, .int .i64 m.kind, .int .i64 m.frm, .int .i64 m.tto, .int .i64 m.line, .int .i64 m.op, .int .i64 m.num, .float .f64 m.flt, .string m.text, .slice m.na m.nn m.nc, .slice m.ka m.nk m.kc, .slice kk kn kc] 60)
    go_enter Try.func47, Try.ntmps47
    go_wp2_with fail
    go_loopw [15] (fun i wr => ∃ k : Nat, k ≤ kn ∧ i = .int .i64 k ∧ Onw w wr ∧ Blk wr w.heap.size 60 #[.int .i64 p, .int .i64 m.kind, .int .i64 m.frm, .int .i64 m.tto, .int .i64 m.line, .int .i64 m.op, .int .i64 m.num, .float .f64 m.flt, .string m.text, .slice m.na m.nn m.nc, .slice m.ka m.nk m.kc, .slice kk kn kc] ∧ allB (fun i => hasR (roleO (q i)) (cf i)) 0 kn = allB (fun i => hasR (roleO (q i)) (cf i)) k (kn - k)) (fun i _ => kn - (intOf i).toNat)
    case atStart => exact ⟨0, Nat.zero_le _, rfl, O0, N0, rfl⟩
    case round =>
      clear N0 O0
      obtain ⟨k, hkk, rfl, ob, B, hr⟩ := hrel
      have HR : Hid _ := hr
      clear hr
      by_cases hlt : k < kn
      · obtain ⟨b, off, rfl, hcc⟩ := ha.onw ob (by omega)
        have hck := hcc k hlt
        have z1 := cell_lt hck
        obtain ⟨b2, off2, rfl, hcc2⟩ := hk.onw ob (by omega)
        have hkk2 : wr.cell? ⟨b2, off2 + k, none⟩ = some (pv (q k)) := hcc2 k hlt
        have z2 := cell_lt hkk2
        clear hcc hcc2
        have hst : Hid (allB (fun i => hasR (roleO (q i)) (cf i)) k (kn - k) = (hasR (roleO (q k)) (cf k) && allB (fun i => hasR (roleO (q i)) (cf i)) (k + 1) (kn - (k + 1)))) := by
          show _ = _
          rw [show kn - k = (kn - (k + 1)) + 1 from by omega]; rfl
        have R := rolesOf_any (q k)
        have HH : Hid (hasR (roleO (q k)) (cf k) = !(bits .and .i64 (roleO (q k)) (cf k) == 0)) := rfl
        generalize roleO (q k) = ro at R HH hst
        generalize pv (q k) = v at R hkk2
        have x11 : wr.cell? ⟨w.heap.size, 11, none⟩ = some (.slice (some ⟨b2, off2, none⟩) kn kc) := by rw [B.cell]; rfl
        go_wp2_with fail
        refine (R _).mono ?_
        rintro e w1 ⟨rfl, hb1⟩
        replace B := B.onw hb1
        cases hx : (bits .and .i64 ro (cf k) == 0)
        · go_wp2_with fail
          go_roundw
          case rel => exact ⟨k + 1, by omega, by go_num, ob.trans hb1, B, by rw [HR.out, hst.out, HH.out, hx]; rfl⟩
          case measure => simp [intOf]; omega
        · go_wp2_with fail
          go_ret
          exact ⟨ret_bool (by first | rw [HR.out, hst.out, HH.out, hx]; rfl | rw [fin.out, HR.out, hst.out, HH.out, hx]; rfl), ob.trans hb1⟩
      · have hst : Hid (allB (fun i => hasR (roleO (q i)) (cf i)) k (kn - k) = true) := by
          show _ = _
          rw [show kn - k = 0 from by omega]; rfl
        go_wp2_with fail
        go_ret
        exact ⟨ret_bool (by first | rw [fin.out, HR.out, hst.out] | rw [HR.out, hst.out]), ob⟩
  · have e2 : ((kn : Int) != (cn : Int)) = true := by simp; omega
    have fin : Hid (((kn : Int) == cn && allB (fun i => hasR (roleO (q i)) (cf i)) 0 cn) = false) := by
      show _ = _
      have : ((kn : Int) == (cn : Int)) = false := by simp; omega
      rw [this]; rfl
    go_enter Try.func47, Try.ntmps47
    go_wp2_with fail
    go_ret
    exact ⟨ret_bool fin.out.symm, Onw.alloc _ _⟩

set_option maxRecDepth 100000 in
set_option maxHeartbeats 2000000 in
theorem declares_any (m : PM) (p : Int) (kk : Option Addr) (kn kc : Nat) (least most : Nat) (w : World) (hn : m.nn ≤ 1048576) (hz : ∀ i, i < m.nn → (m.nm i).size ≤ 1048576) (ha : StrsAt w m.na m.nn m.nm) :
    Calls Try.prog 46 #[.agg #[.int .i64 p, .int .i64 m.kind, .int .i64 m.frm, .int .i64 m.tto, .int .i64 m.line, .int .i64 m.op, .int .i64 m.num, .float .f64 m.flt, .string m.text, .slice m.na m.nn m.nc, .slice m.ka m.nk m.kc, .slice kk kn kc], .int .i64 least, .int .i64 most] w fun e w' => e = .returned (.bool (usesP m.toPD false false false false true && (decide ((least : Int) ≤ m.nn) && (decide ((m.nn : Int) ≤ most) && allB (fun i => nameB (m.nm i)) 0 m.nn)))) ∧ Onw w w' := by
  have N0 := Blk.new w 60 #[.int .i64 p, .int .i64 m.kind, .int .i64 m.frm, .int .i64 m.tto, .int .i64 m.line, .int .i64 m.op, .int .i64 m.num, .float .f64 m.flt, .string m.text, .slice m.na m.nn m.nc, .slice m.ka m.nk m.kc, .slice kk kn kc]
  have O0 := Onw.alloc w (Obj.cells #[.int .i64 p, .int .i64 m.kind, .int .i64 m.frm, .int .i64 m.tto, .int .i64 m.line, .int .i64 m.op, .int .i64 m.num, .float .f64 m.flt, .string m.text, .slice m.na m.nn m.nc, .slice m.ka m.nk m.kc, .slice kk kn kc] 60)
  go_enter Try.func46, Try.ntmps46
  go_wp2_with fail
  refine (usesOnly_any m p kk kn kc 16 _ false false false false true (by simp)).mono ?_
  rintro e w1 ⟨rfl, hb1⟩
  replace N0 := N0.onw hb1
  replace O0 := O0.trans hb1
  clear hb1
  have x9 : w1.cell? ⟨w.heap.size, 9, none⟩ = some (.slice m.na m.nn m.nc) := by rw [N0.cell]; rfl
  cases hx : usesP m.toPD false false false false true
  · go_wp2_with fail
    go_ret
    exact ⟨ret_bool (by rw [hx]; rfl), O0⟩
  · by_cases h1 : (least : Int) ≤ m.nn
    · have d1 := decide_eq_true h1
      by_cases h2 : (m.nn : Int) ≤ most
      · have d2 := decide_eq_true h2
        go_wp2_with fail
        refine (areNames_any _ _ _ m.nm _ hn hz (ha.onw O0)).mono ?_
        rintro e w2 ⟨rfl, rfl⟩
        go_wp2_with fail
        go_ret
        exact ⟨ret_bool (by simp [*]), O0⟩
      · have d2 := decide_eq_false h2
        go_wp2_with fail
        go_ret
        exact ⟨ret_bool (by simp [*]), O0⟩
    · have d1 := decide_eq_false h1
      go_wp2_with fail
      go_ret
      exact ⟨ret_bool (by simp [*]), O0⟩
end Go.Proofs.Ytnokgdgikdgaeaa

namespace Go.Proofs.Ytnokgdgikdgaeaa
open Go.RowKit

theorem on1 {w a b : World} {g : Nat} {e : TypeId} {c : Array Value} (T : Onw w a ∧ Blk a g e c) (o : Onw a b) : Onw w b ∧ Blk b g e c := ⟨T.1.trans o, T.2.onw o⟩
theorem on2 {w a b : World} {g g' : Nat} {e e' : TypeId} {c c' : Array Value} (T : Onw w a ∧ Blk a g e c ∧ Blk a g' e' c') (o : Onw a b) : Onw w b ∧ Blk b g e c ∧ Blk b g' e' c' := ⟨T.1.trans o, T.2.1.onw o, T.2.2.onw o⟩
theorem on3 {w a b : World} {g g' g2 : Nat} {e e' e2 : TypeId} {c c' c2 : Array Value} (T : Onw w a ∧ Blk a g e c ∧ Blk a g' e' c' ∧ Blk a g2 e2 c2) (o : Onw a b) : Onw w b ∧ Blk b g e c ∧ Blk b g' e' c' ∧ Blk b g2 e2 c2 := ⟨T.1.trans o, T.2.1.onw o, T.2.2.1.onw o, T.2.2.2.onw o⟩
theorem st1 (w : World) (e : TypeId) (c : Array Value) : Onw w (w.alloc (.cells c e)) ∧ Blk (w.alloc (.cells c e)) w.heap.size e c := ⟨Onw.alloc w _, Blk.new w e c⟩
theorem st2 (w : World) (e e' : TypeId) (c c' : Array Value) : Onw w ((w.alloc (.cells c e)).alloc (.cells c' e')) ∧ Blk ((w.alloc (.cells c e)).alloc (.cells c' e')) w.heap.size e c ∧ Blk ((w.alloc (.cells c e)).alloc (.cells c' e')) (w.heap.size + 1) e' c' := by
  have h := on1 (st1 w e c) (Onw.alloc (w.alloc (.cells c e)) (.cells c' e'))
  have k := Blk.new (w.alloc (.cells c e)) e' c'
  rw [World.size_alloc] at k
  exact ⟨h.1, h.2, k⟩
theorem st3 (w : World) (e e' e2 : TypeId) (c c' c2 : Array Value) : Onw w (((w.alloc (.cells c e)).alloc (.cells c' e')).alloc (.cells c2 e2)) ∧ Blk (((w.alloc (.cells c e)).alloc (.cells c' e')).alloc (.cells c2 e2)) w.heap.size e c ∧ Blk (((w.alloc (.cells c e)).alloc (.cells c' e')).alloc (.cells c2 e2)) (w.heap.size + 1) e' c' ∧ Blk (((w.alloc (.cells c e)).alloc (.cells c' e')).alloc (.cells c2 e2)) (w.heap.size + 2) e2 c2 := by
  have h := on2 (st2 w e e' c c') (Onw.alloc ((w.alloc (.cells c e)).alloc (.cells c' e')) (.cells c2 e2))
  have k := Blk.new ((w.alloc (.cells c e)).alloc (.cells c' e')) e2 c2
  rw [World.size_alloc, World.size_alloc] at k
  exact ⟨h.1, h.2.1, h.2.2, k⟩
end Go.Proofs.Ytnokgdgikdgaeaa

namespace Go.Proofs.Ytnokgdgikdgaeaa
open Go.RowKit
attribute [local go_sem] run_store_float

/-- What is asked of a piece and its kids. -/
structure FitsAt (m : PM) (kk : Option Addr) (kn kc : Nat) (q : Nat → Option PX) (w : World) : Prop where
  hn : kn ≤ 1048576
  hk : ValsAt w kk kn (fun j => pv (q j))
  hkc : kn ≤ kc
  hnn : m.nn ≤ 1048576
  hz : ∀ i, i < m.nn → (m.nm i).size ≤ 1048576
  htx : m.text.size ≤ 1048576
  hm : StrsAt w m.na m.nn m.nm
def classF (l : List Int) : Nat → Int := fun i => l.getD i 0
/-- Kids that may stand as just these. -/
def kidsR (l : List Int) (kn : Nat) (q : Nat → Option PX) : Bool := (kn : Int) == (l.length : Nat) && allB (fun i => hasR (roleO (q i)) (classF l i)) 0 l.length
def standR (r : Int) (kn : Nat) (q : Nat → Option PX) : Bool := allB (fun i => hasR (roleO (q i)) r) 0 kn
def declP (d : PD) (least most : Nat) : Bool := usesP d false false false false true && (decide ((least : Int) ≤ d.nn) && (decide ((d.nn : Int) ≤ most) && allB (fun i => nameB (d.nm i)) 0 d.nn))
theorem declP_eq {d : PD} {least most : Nat} : (usesP d false false false false true && (decide ((least : Int) ≤ d.nn) && (decide ((d.nn : Int) ≤ most) && allB (fun i => nameB (d.nm i)) 0 d.nn))) = declP d least most := rfl
def targetsR (d : PD) (kn : Nat) (q : Nat → Option PX) : Bool := decide (1 ≤ d.num) && (decide (d.num < kn) && (standR 128 d.num.toNat q && standR 8 (kn - d.num.toNat) (fun i => q (d.num.toNat + i))))
theorem isNaN_any (x : Nat) (w : World) : Calls Try.prog 49 #[.float .f64 x] w fun e w' => e = .returned (.bool (!fnum x)) ∧ w' = w := by
  go_enter Try.func49, Try.ntmps49
  go_wp2
  go_ret
  exact ⟨rfl, rfl⟩
theorem vals_to {w : World} {a : Option Addr} {n n' : Nat} {f : Nat → Value} (h : ValsAt w a n f) (hn : n' ≤ n) : ValsAt w a n' f := fun h0 => by
  obtain ⟨b', off', he, hc⟩ := h (by omega)
  exact ⟨b', off', he, fun i hi => hc i (by omega)⟩
theorem vals_from {w : World} {b off n t : Nat} {f : Nat → Value} (h : ValsAt w (some ⟨b, off, none⟩) n f) (ht : t ≤ n) : ValsAt w (some ⟨b, off + t, none⟩) (n - t) (fun i => f (t + i)) := fun h0 => by
  obtain ⟨b', off', he, hc⟩ := h (by omega)
  simp only [Option.some.injEq, Addr.mk.injEq, and_true] at he
  obtain ⟨rfl, rfl⟩ := he
  exact ⟨b, off + t, rfl, fun i hi => by rw [Nat.add_assoc]; exact hc (t + i) (by omega)⟩
theorem lay1 (w : World) (t : TypeId) (v0 : Int) : IntsAt (w.alloc (Obj.cells #[.int .i64 v0] t)) (some ⟨w.heap.size, 0, none⟩) 1 (classF [v0]) := fun _ => ⟨_, 0, rfl, fun i hi => by
  rw [(Blk.new w t _).cell]
  match i, hi with
  | 0, _ => rfl⟩
theorem lay2 (w : World) (t : TypeId) (v0 v1 : Int) : IntsAt (w.alloc (Obj.cells #[.int .i64 v0, .int .i64 v1] t)) (some ⟨w.heap.size, 0, none⟩) 2 (classF [v0, v1]) := fun _ => ⟨_, 0, rfl, fun i hi => by
  rw [(Blk.new w t _).cell]
  match i, hi with
  | 0, _ => rfl
  | 1, _ => rfl⟩
theorem lay3 (w : World) (t : TypeId) (v0 v1 v2 : Int) : IntsAt (w.alloc (Obj.cells #[.int .i64 v0, .int .i64 v1, .int .i64 v2] t)) (some ⟨w.heap.size, 0, none⟩) 3 (classF [v0, v1, v2]) := fun _ => ⟨_, 0, rfl, fun i hi => by
  rw [(Blk.new w t _).cell]
  match i, hi with
  | 0, _ => rfl
  | 1, _ => rfl
  | 2, _ => rfl⟩
theorem lay4 (w : World) (t : TypeId) (v0 v1 v2 v3 : Int) : IntsAt (w.alloc (Obj.cells #[.int .i64 v0, .int .i64 v1, .int .i64 v2, .int .i64 v3] t)) (some ⟨w.heap.size, 0, none⟩) 4 (classF [v0, v1, v2, v3]) := fun _ => ⟨_, 0, rfl, fun i hi => by
  rw [(Blk.new w t _).cell]
  match i, hi with
  | 0, _ => rfl
  | 1, _ => rfl
  | 2, _ => rfl
  | 3, _ => rfl⟩
end Go.Proofs.Ytnokgdgikdgaeaa

namespace Go.Proofs.Ytnokgdgikdgaeaa
open Go.RowKit
attribute [local go_sem] run_store_float

set_option maxRecDepth 100000 in
set_option maxHeartbeats 4000000 in
theorem sf_no {t : TypeId} (h : t ≠ 81 ∧ t ≠ 84 ∧ t ≠ 85 ∧ t ≠ 87 ∧ t ≠ 88 ∧ t ≠ 90 ∧ t ≠ 91 ∧ t ≠ 92 ∧ t ≠ 93 ∧ t ≠ 94 ∧ t ≠ 95 ∧ t ≠ 96 ∧ t ≠ 97 ∧ t ≠ 98) (m : PM) (p : Int) (kk : Option Addr) (kn kc : Nat) (w : World) :
    Calls Try.prog 27 #[.iface t (.agg #[.int .i64 p, .int .i64 m.kind, .int .i64 m.frm, .int .i64 m.tto, .int .i64 m.line, .int .i64 m.op, .int .i64 m.num, .float .f64 m.flt, .string m.text, .slice m.na m.nn m.nc, .slice m.ka m.nk m.kc, .slice kk kn kc])] w fun e w' => e = .returned (.bool false) ∧ Onw w w' := by
  obtain ⟨h_block, h_let, h_const, h_ownFn, h_set, h_do, h_if, h_while, h_for, h_each, h_jump, h_return, h_try, h_throw⟩ := h
  have a_block := as_block_no h_block
  have a_let := as_let_no h_let
  have a_const := as_const_no h_const
  have a_ownFn := as_ownFn_no h_ownFn
  have a_set := as_set_no h_set
  have a_do := as_do_no h_do
  have a_if := as_if_no h_if
  have a_while := as_while_no h_while
  have a_for := as_for_no h_for
  have a_each := as_each_no h_each
  have a_jump := as_jump_no h_jump
  have a_return := as_return_no h_return
  have a_try := as_try_no h_try
  have a_throw := as_throw_no h_throw
  clear h_block h_let h_const h_ownFn h_set h_do h_if h_while h_for h_each h_jump h_return h_try h_throw
  go_enter Try.func27, Try.ntmps27
  go_wp2_with fail
  go_ret
  exact ⟨rfl, by first | exact Onw.refl _ | exact Onw.alloc _ _⟩

set_option maxRecDepth 100000 in
set_option maxHeartbeats 4000000 in
theorem ef_no {t : TypeId} (h : t ≠ 100 ∧ t ≠ 101 ∧ t ≠ 102 ∧ t ≠ 103 ∧ t ≠ 105 ∧ t ≠ 106 ∧ t ≠ 107 ∧ t ≠ 108 ∧ t ≠ 109 ∧ t ≠ 110 ∧ t ≠ 111 ∧ t ≠ 112 ∧ t ≠ 113 ∧ t ≠ 114 ∧ t ≠ 116) (m : PM) (p : Int) (kk : Option Addr) (kn kc : Nat) (w : World) :
    Calls Try.prog 28 #[.iface t (.agg #[.int .i64 p, .int .i64 m.kind, .int .i64 m.frm, .int .i64 m.tto, .int .i64 m.line, .int .i64 m.op, .int .i64 m.num, .float .f64 m.flt, .string m.text, .slice m.na m.nn m.nc, .slice m.ka m.nk m.kc, .slice kk kn kc])] w fun e w' => e = .returned (.bool false) ∧ Onw w w' := by
  obtain ⟨h_bare, h_rest, h_int, h_flt, h_str, h_name, h_either, h_unary, h_binary, h_index, h_field, h_call, h_table, h_fn, h_one⟩ := h
  have a_bare := as_bare_no h_bare
  have a_rest := as_rest_no h_rest
  have a_int := as_int_no h_int
  have a_flt := as_flt_no h_flt
  have a_str := as_str_no h_str
  have a_name := as_name_no h_name
  have a_either := as_either_no h_either
  have a_unary := as_unary_no h_unary
  have a_binary := as_binary_no h_binary
  have a_index := as_index_no h_index
  have a_field := as_field_no h_field
  have a_call := as_call_no h_call
  have a_table := as_table_no h_table
  have a_fn := as_fn_no h_fn
  have a_one := as_one_no h_one
  clear h_bare h_rest h_int h_flt h_str h_name h_either h_unary h_binary h_index h_field h_call h_table h_fn h_one
  go_enter Try.func28, Try.ntmps28
  go_wp2_with fail
  go_ret
  exact ⟨rfl, by first | exact Onw.refl _ | exact Onw.alloc _ _⟩

set_option maxRecDepth 100000 in
set_option maxHeartbeats 4000000 in
theorem nf_no {t : TypeId} (h : t ≠ 119 ∧ t ≠ 120 ∧ t ≠ 121) (m : PM) (p : Int) (kk : Option Addr) (kn kc : Nat) (w : World) :
    Calls Try.prog 29 #[.iface t (.agg #[.int .i64 p, .int .i64 m.kind, .int .i64 m.frm, .int .i64 m.tto, .int .i64 m.line, .int .i64 m.op, .int .i64 m.num, .float .f64 m.flt, .string m.text, .slice m.na m.nn m.nc, .slice m.ka m.nk m.kc, .slice kk kn kc])] w fun e w' => e = .returned (.bool false) ∧ Onw w w' := by
  obtain ⟨h_item, h_pair, h_named⟩ := h
  have a_item := as_item_no h_item
  have a_pair := as_pair_no h_pair
  have a_named := as_named_no h_named
  clear h_item h_pair h_named
  go_enter Try.func29, Try.ntmps29
  go_wp2_with fail
  go_ret
  exact ⟨rfl, by first | exact Onw.refl _ | exact Onw.alloc _ _⟩

end Go.Proofs.Ytnokgdgikdgaeaa

namespace Go.Proofs.Ytnokgdgikdgaeaa
open Go.RowKit
attribute [local go_sem] run_store_float

variable (m : PM) (p : Int) (kk : Option Addr) (kn kc : Nat) (q : Nat → Option PX) (w : World)
set_option maxRecDepth 100000 in
set_option maxHeartbeats 4000000 in
theorem sf_block (H : FitsAt m kk kn kc q w) :
    Calls Try.prog 27 #[.iface 81 (.agg #[.int .i64 p, .int .i64 m.kind, .int .i64 m.frm, .int .i64 m.tto, .int .i64 m.line, .int .i64 m.op, .int .i64 m.num, .float .f64 m.flt, .string m.text, .slice m.na m.nn m.nc, .slice m.ka m.nk m.kc, .slice kk kn kc])] w fun e w' => e = .returned (.bool (usesP m.toPD false false false false false && (standR 1 kn q))) ∧ Onw w w' := by
  obtain ⟨hn, hk, hkc, hnn, hz, htx, hm⟩ := H
  have ⟨O, B⟩ := st1 w 81 #[.int .i64 p, .int .i64 m.kind, .int .i64 m.frm, .int .i64 m.tto, .int .i64 m.line, .int .i64 m.op, .int .i64 m.num, .float .f64 m.flt, .string m.text, .slice m.na m.nn m.nc, .slice m.ka m.nk m.kc, .slice kk kn kc]
  have bc := B.cell
  have a_block := as_block_yes
  go_enter Try.func27, Try.ntmps27
  go_wp2_with fail
  refine (usesOnly_any m p kk kn kc 0 _ false false false false false (by simp)).mono ?_
  rintro e w1 ⟨rfl, hb⟩
  replace B := B.onw hb
  replace O := O.trans hb
  clear hb bc
  have bc := B.cell
  cases h0 : usesP m.toPD false false false false false
  · go_wp2_with fail
    go_ret
    exact ⟨ret_bool (by first | rfl | (rw [h0]; rfl) | (rw [h0, h1]; rfl) | (rw [h0, h1, h2]; rfl) | (rw [h0, h1, h2, h3]; rfl) | (rw [h0, h9]; rfl) | (simp [*]; done) | (simp_all; done)), O⟩
  · go_wp2_with fail
    refine (standAs_any _ _ _ q 1 _ hn (hk.onw O)).mono ?_
    rintro e w2 ⟨rfl, hb⟩
    replace B := B.onw hb
    replace O := O.trans hb
    clear hb bc
    have bc := B.cell
    go_wp2_with fail
    go_ret
    exact ⟨ret_bool (by first | rfl | (rw [h0]; rfl) | (rw [h0, h1]; rfl) | (rw [h0, h1, h2]; rfl) | (rw [h0, h1, h2, h3]; rfl) | (rw [h0, h9]; rfl) | (simp [*]; done) | (simp_all; done)), O⟩

set_option maxRecDepth 100000 in
set_option maxHeartbeats 4000000 in
theorem sf_let (H : FitsAt m kk kn kc q w) :
    Calls Try.prog 27 #[.iface 84 (.agg #[.int .i64 p, .int .i64 m.kind, .int .i64 m.frm, .int .i64 m.tto, .int .i64 m.line, .int .i64 m.op, .int .i64 m.num, .float .f64 m.flt, .string m.text, .slice m.na m.nn m.nc, .slice m.ka m.nk m.kc, .slice kk kn kc])] w fun e w' => e = .returned (.bool (declP m.toPD 1 200 && (standR 8 kn q))) ∧ Onw w w' := by
  obtain ⟨hn, hk, hkc, hnn, hz, htx, hm⟩ := H
  have ⟨O, B⟩ := st1 w 84 #[.int .i64 p, .int .i64 m.kind, .int .i64 m.frm, .int .i64 m.tto, .int .i64 m.line, .int .i64 m.op, .int .i64 m.num, .float .f64 m.flt, .string m.text, .slice m.na m.nn m.nc, .slice m.ka m.nk m.kc, .slice kk kn kc]
  have bc := B.cell
  have a_block := as_block_no (t := 84) (by decide)
  have a_let := as_let_yes
  go_enter Try.func27, Try.ntmps27
  go_wp2_with fail
  refine (declares_any m p kk kn kc 1 200 _ hnn hz (hm.onw O)).mono ?_
  rintro e w1 ⟨rfl, hb⟩
  replace B := B.onw hb
  replace O := O.trans hb
  clear hb bc
  have bc := B.cell
  rw [declP_eq]
  cases h0 : declP m.toPD 1 200
  · go_wp2_with fail
    go_ret
    exact ⟨ret_bool (by first | rfl | (rw [h0]; rfl) | (rw [h0, h1]; rfl) | (rw [h0, h1, h2]; rfl) | (rw [h0, h1, h2, h3]; rfl) | (rw [h0, h9]; rfl) | (simp [*]; done) | (simp_all; done)), O⟩
  · go_wp2_with fail
    refine (standAs_any _ _ _ q 8 _ hn (hk.onw O)).mono ?_
    rintro e w2 ⟨rfl, hb⟩
    replace B := B.onw hb
    replace O := O.trans hb
    clear hb bc
    have bc := B.cell
    go_wp2_with fail
    go_ret
    exact ⟨ret_bool (by first | rfl | (rw [h0]; rfl) | (rw [h0, h1]; rfl) | (rw [h0, h1, h2]; rfl) | (rw [h0, h1, h2, h3]; rfl) | (rw [h0, h9]; rfl) | (simp [*]; done) | (simp_all; done)), O⟩

set_option maxRecDepth 100000 in
set_option maxHeartbeats 4000000 in
theorem sf_const (H : FitsAt m kk kn kc q w) :
    Calls Try.prog 27 #[.iface 85 (.agg #[.int .i64 p, .int .i64 m.kind, .int .i64 m.frm, .int .i64 m.tto, .int .i64 m.line, .int .i64 m.op, .int .i64 m.num, .float .f64 m.flt, .string m.text, .slice m.na m.nn m.nc, .slice m.ka m.nk m.kc, .slice kk kn kc])] w fun e w' => e = .returned (.bool (declP m.toPD 1 1 && (kidsR [8] kn q))) ∧ Onw w w' := by
  obtain ⟨hn, hk, hkc, hnn, hz, htx, hm⟩ := H
  have ⟨O, B⟩ := st1 w 85 #[.int .i64 p, .int .i64 m.kind, .int .i64 m.frm, .int .i64 m.tto, .int .i64 m.line, .int .i64 m.op, .int .i64 m.num, .float .f64 m.flt, .string m.text, .slice m.na m.nn m.nc, .slice m.ka m.nk m.kc, .slice kk kn kc]
  have bc := B.cell
  have a_block := as_block_no (t := 85) (by decide)
  have a_let := as_let_no (t := 85) (by decide)
  have a_const := as_const_yes
  go_enter Try.func27, Try.ntmps27
  go_wp2_with fail
  refine (declares_any m p kk kn kc 1 1 _ hnn hz (hm.onw O)).mono ?_
  rintro e w1 ⟨rfl, hb⟩
  replace B := B.onw hb
  replace O := O.trans hb
  clear hb bc
  have bc := B.cell
  rw [declP_eq]
  cases h0 : declP m.toPD 1 1
  · go_wp2_with fail
    go_ret
    exact ⟨ret_bool (by first | rfl | (rw [h0]; rfl) | (rw [h0, h1]; rfl) | (rw [h0, h1, h2]; rfl) | (rw [h0, h1, h2, h3]; rfl) | (rw [h0, h9]; rfl) | (simp [*]; done) | (simp_all; done)), O⟩
  · go_wp2_with fail
    refine (kidsAre_any m p kk kn kc q _ 1 _ (classF [8]) _ hn (hk.onw (O.trans (Onw.alloc _ _))) (by exact lay1 _ _ 8)).mono ?_
    rintro e w2 ⟨rfl, hb⟩
    replace hb := (Onw.alloc _ _).trans hb
    replace B := B.onw hb
    replace O := O.trans hb
    clear hb bc
    have bc := B.cell
    go_wp2_with fail
    go_ret
    exact ⟨ret_bool (by first | rfl | (rw [h0]; rfl) | (rw [h0, h1]; rfl) | (rw [h0, h1, h2]; rfl) | (rw [h0, h1, h2, h3]; rfl) | (rw [h0, h9]; rfl) | (simp [*]; done) | (simp_all; done)), O⟩

set_option maxRecDepth 100000 in
set_option maxHeartbeats 4000000 in
theorem sf_ownFn (H : FitsAt m kk kn kc q w) :
    Calls Try.prog 27 #[.iface 87 (.agg #[.int .i64 p, .int .i64 m.kind, .int .i64 m.frm, .int .i64 m.tto, .int .i64 m.line, .int .i64 m.op, .int .i64 m.num, .float .f64 m.flt, .string m.text, .slice m.na m.nn m.nc, .slice m.ka m.nk m.kc, .slice kk kn kc])] w fun e w' => e = .returned (.bool (declP m.toPD 1 1 && (kidsR [256] kn q))) ∧ Onw w w' := by
  obtain ⟨hn, hk, hkc, hnn, hz, htx, hm⟩ := H
  have ⟨O, B⟩ := st1 w 87 #[.int .i64 p, .int .i64 m.kind, .int .i64 m.frm, .int .i64 m.tto, .int .i64 m.line, .int .i64 m.op, .int .i64 m.num, .float .f64 m.flt, .string m.text, .slice m.na m.nn m.nc, .slice m.ka m.nk m.kc, .slice kk kn kc]
  have bc := B.cell
  have a_block := as_block_no (t := 87) (by decide)
  have a_let := as_let_no (t := 87) (by decide)
  have a_const := as_const_no (t := 87) (by decide)
  have a_ownFn := as_ownFn_yes
  go_enter Try.func27, Try.ntmps27
  go_wp2_with fail
  refine (declares_any m p kk kn kc 1 1 _ hnn hz (hm.onw O)).mono ?_
  rintro e w1 ⟨rfl, hb⟩
  replace B := B.onw hb
  replace O := O.trans hb
  clear hb bc
  have bc := B.cell
  rw [declP_eq]
  cases h0 : declP m.toPD 1 1
  · go_wp2_with fail
    go_ret
    exact ⟨ret_bool (by first | rfl | (rw [h0]; rfl) | (rw [h0, h1]; rfl) | (rw [h0, h1, h2]; rfl) | (rw [h0, h1, h2, h3]; rfl) | (rw [h0, h9]; rfl) | (simp [*]; done) | (simp_all; done)), O⟩
  · go_wp2_with fail
    refine (kidsAre_any m p kk kn kc q _ 1 _ (classF [256]) _ hn (hk.onw (O.trans (Onw.alloc _ _))) (by exact lay1 _ _ 256)).mono ?_
    rintro e w2 ⟨rfl, hb⟩
    replace hb := (Onw.alloc _ _).trans hb
    replace B := B.onw hb
    replace O := O.trans hb
    clear hb bc
    have bc := B.cell
    go_wp2_with fail
    go_ret
    exact ⟨ret_bool (by first | rfl | (rw [h0]; rfl) | (rw [h0, h1]; rfl) | (rw [h0, h1, h2]; rfl) | (rw [h0, h1, h2, h3]; rfl) | (rw [h0, h9]; rfl) | (simp [*]; done) | (simp_all; done)), O⟩

set_option maxRecDepth 100000 in
set_option maxHeartbeats 4000000 in
theorem sf_do (H : FitsAt m kk kn kc q w) :
    Calls Try.prog 27 #[.iface 90 (.agg #[.int .i64 p, .int .i64 m.kind, .int .i64 m.frm, .int .i64 m.tto, .int .i64 m.line, .int .i64 m.op, .int .i64 m.num, .float .f64 m.flt, .string m.text, .slice m.na m.nn m.nc, .slice m.ka m.nk m.kc, .slice kk kn kc])] w fun e w' => e = .returned (.bool (usesP m.toPD false false false false false && (kidsR [32] kn q))) ∧ Onw w w' := by
  obtain ⟨hn, hk, hkc, hnn, hz, htx, hm⟩ := H
  have ⟨O, B⟩ := st1 w 90 #[.int .i64 p, .int .i64 m.kind, .int .i64 m.frm, .int .i64 m.tto, .int .i64 m.line, .int .i64 m.op, .int .i64 m.num, .float .f64 m.flt, .string m.text, .slice m.na m.nn m.nc, .slice m.ka m.nk m.kc, .slice kk kn kc]
  have bc := B.cell
  have a_block := as_block_no (t := 90) (by decide)
  have a_let := as_let_no (t := 90) (by decide)
  have a_const := as_const_no (t := 90) (by decide)
  have a_ownFn := as_ownFn_no (t := 90) (by decide)
  have a_set := as_set_no (t := 90) (by decide)
  have a_do := as_do_yes
  go_enter Try.func27, Try.ntmps27
  go_wp2_with fail
  refine (usesOnly_any m p kk kn kc 0 _ false false false false false (by simp)).mono ?_
  rintro e w1 ⟨rfl, hb⟩
  replace B := B.onw hb
  replace O := O.trans hb
  clear hb bc
  have bc := B.cell
  cases h0 : usesP m.toPD false false false false false
  · go_wp2_with fail
    go_ret
    exact ⟨ret_bool (by first | rfl | (rw [h0]; rfl) | (rw [h0, h1]; rfl) | (rw [h0, h1, h2]; rfl) | (rw [h0, h1, h2, h3]; rfl) | (rw [h0, h9]; rfl) | (simp [*]; done) | (simp_all; done)), O⟩
  · go_wp2_with fail
    refine (kidsAre_any m p kk kn kc q _ 1 _ (classF [32]) _ hn (hk.onw (O.trans (Onw.alloc _ _))) (by exact lay1 _ _ 32)).mono ?_
    rintro e w2 ⟨rfl, hb⟩
    replace hb := (Onw.alloc _ _).trans hb
    replace B := B.onw hb
    replace O := O.trans hb
    clear hb bc
    have bc := B.cell
    go_wp2_with fail
    go_ret
    exact ⟨ret_bool (by first | rfl | (rw [h0]; rfl) | (rw [h0, h1]; rfl) | (rw [h0, h1, h2]; rfl) | (rw [h0, h1, h2, h3]; rfl) | (rw [h0, h9]; rfl) | (simp [*]; done) | (simp_all; done)), O⟩

end Go.Proofs.Ytnokgdgikdgaeaa

namespace Go.Proofs.Ytnokgdgikdgaeaa
open Go.RowKit
attribute [local go_sem] run_store_float

variable (m : PM) (p : Int) (kk : Option Addr) (kn kc : Nat) (q : Nat → Option PX) (w : World)
set_option maxRecDepth 100000 in
set_option maxHeartbeats 4000000 in
theorem sf_if (H : FitsAt m kk kn kc q w) :
    Calls Try.prog 27 #[.iface 91 (.agg #[.int .i64 p, .int .i64 m.kind, .int .i64 m.frm, .int .i64 m.tto, .int .i64 m.line, .int .i64 m.op, .int .i64 m.num, .float .f64 m.flt, .string m.text, .slice m.na m.nn m.nc, .slice m.ka m.nk m.kc, .slice kk kn kc])] w fun e w' => e = .returned (.bool (usesP m.toPD false false false false false && ((kidsR [8, 2] kn q || kidsR [8, 2, 4] kn q)))) ∧ Onw w w' := by
  obtain ⟨hn, hk, hkc, hnn, hz, htx, hm⟩ := H
  have ⟨O, B⟩ := st1 w 91 #[.int .i64 p, .int .i64 m.kind, .int .i64 m.frm, .int .i64 m.tto, .int .i64 m.line, .int .i64 m.op, .int .i64 m.num, .float .f64 m.flt, .string m.text, .slice m.na m.nn m.nc, .slice m.ka m.nk m.kc, .slice kk kn kc]
  have bc := B.cell
  have a_block := as_block_no (t := 91) (by decide)
  have a_let := as_let_no (t := 91) (by decide)
  have a_const := as_const_no (t := 91) (by decide)
  have a_ownFn := as_ownFn_no (t := 91) (by decide)
  have a_set := as_set_no (t := 91) (by decide)
  have a_do := as_do_no (t := 91) (by decide)
  have a_if := as_if_yes
  go_enter Try.func27, Try.ntmps27
  go_wp2_with fail
  refine (usesOnly_any m p kk kn kc 0 _ false false false false false (by simp)).mono ?_
  rintro e w1 ⟨rfl, hb⟩
  replace B := B.onw hb
  replace O := O.trans hb
  clear hb bc
  have bc := B.cell
  cases h0 : usesP m.toPD false false false false false
  · go_wp2_with fail
    go_ret
    exact ⟨ret_bool (by first | rfl | (rw [h0]; rfl) | (rw [h0, h1]; rfl) | (rw [h0, h1, h2]; rfl) | (rw [h0, h1, h2, h3]; rfl) | (rw [h0, h9]; rfl) | (simp [*]; done) | (simp_all; done)), O⟩
  · go_wp2_with fail
    refine (kidsAre_any m p kk kn kc q _ 2 _ (classF [8, 2]) _ hn (hk.onw (O.trans (Onw.alloc _ _))) (by exact lay2 _ _ 8 2)).mono ?_
    rintro e v0 ⟨rfl, hb⟩
    replace hb := (Onw.alloc _ _).trans hb
    replace B := B.onw hb
    replace O := O.trans hb
    clear hb bc
    have bc := B.cell
    have hE : Hid (((kn : Int) == ((2 : Nat) : Int) && allB (fun i => hasR (roleO (q i)) (classF [8, 2] i)) 0 2) = kidsR [8, 2] kn q) := rfl
    rw [hE.out]
    clear hE
    cases h9 : kidsR [8, 2] kn q
    rotate_left
    · go_wp2_with fail
      go_ret
      exact ⟨ret_bool (by first | rfl | (rw [h0]; rfl) | (rw [h0, h1]; rfl) | (rw [h0, h1, h2]; rfl) | (rw [h0, h1, h2, h3]; rfl) | (rw [h0, h9]; rfl) | (simp [*]; done) | (simp_all; done)), O⟩
    go_wp2_with fail
    refine (kidsAre_any m p kk kn kc q _ 3 _ (classF [8, 2, 4]) _ hn (hk.onw (O.trans (Onw.alloc _ _))) (by exact lay3 _ _ 8 2 4)).mono ?_
    rintro e v1 ⟨rfl, hb⟩
    replace hb := (Onw.alloc _ _).trans hb
    replace B := B.onw hb
    replace O := O.trans hb
    clear hb bc
    have bc := B.cell
    have hE : Hid (((kn : Int) == ((3 : Nat) : Int) && allB (fun i => hasR (roleO (q i)) (classF [8, 2, 4] i)) 0 3) = kidsR [8, 2, 4] kn q) := rfl
    rw [hE.out]
    clear hE
    go_wp2_with fail
    go_ret
    exact ⟨ret_bool (by first | rfl | (rw [h0]; rfl) | (rw [h0, h1]; rfl) | (rw [h0, h1, h2]; rfl) | (rw [h0, h1, h2, h3]; rfl) | (rw [h0, h9]; rfl) | (simp [*]; done) | (simp_all; done)), O⟩

set_option maxRecDepth 100000 in
set_option maxHeartbeats 4000000 in
theorem sf_while (H : FitsAt m kk kn kc q w) :
    Calls Try.prog 27 #[.iface 92 (.agg #[.int .i64 p, .int .i64 m.kind, .int .i64 m.frm, .int .i64 m.tto, .int .i64 m.line, .int .i64 m.op, .int .i64 m.num, .float .f64 m.flt, .string m.text, .slice m.na m.nn m.nc, .slice m.ka m.nk m.kc, .slice kk kn kc])] w fun e w' => e = .returned (.bool (usesP m.toPD false false false false false && (kidsR [8, 2] kn q))) ∧ Onw w w' := by
  obtain ⟨hn, hk, hkc, hnn, hz, htx, hm⟩ := H
  have ⟨O, B⟩ := st1 w 92 #[.int .i64 p, .int .i64 m.kind, .int .i64 m.frm, .int .i64 m.tto, .int .i64 m.line, .int .i64 m.op, .int .i64 m.num, .float .f64 m.flt, .string m.text, .slice m.na m.nn m.nc, .slice m.ka m.nk m.kc, .slice kk kn kc]
  have bc := B.cell
  have a_block := as_block_no (t := 92) (by decide)
  have a_let := as_let_no (t := 92) (by decide)
  have a_const := as_const_no (t := 92) (by decide)
  have a_ownFn := as_ownFn_no (t := 92) (by decide)
  have a_set := as_set_no (t := 92) (by decide)
  have a_do := as_do_no (t := 92) (by decide)
  have a_if := as_if_no (t := 92) (by decide)
  have a_while := as_while_yes
  go_enter Try.func27, Try.ntmps27
  go_wp2_with fail
  refine (usesOnly_any m p kk kn kc 0 _ false false false false false (by simp)).mono ?_
  rintro e w1 ⟨rfl, hb⟩
  replace B := B.onw hb
  replace O := O.trans hb
  clear hb bc
  have bc := B.cell
  cases h0 : usesP m.toPD false false false false false
  · go_wp2_with fail
    go_ret
    exact ⟨ret_bool (by first | rfl | (rw [h0]; rfl) | (rw [h0, h1]; rfl) | (rw [h0, h1, h2]; rfl) | (rw [h0, h1, h2, h3]; rfl) | (rw [h0, h9]; rfl) | (simp [*]; done) | (simp_all; done)), O⟩
  · go_wp2_with fail
    refine (kidsAre_any m p kk kn kc q _ 2 _ (classF [8, 2]) _ hn (hk.onw (O.trans (Onw.alloc _ _))) (by exact lay2 _ _ 8 2)).mono ?_
    rintro e w2 ⟨rfl, hb⟩
    replace hb := (Onw.alloc _ _).trans hb
    replace B := B.onw hb
    replace O := O.trans hb
    clear hb bc
    have bc := B.cell
    go_wp2_with fail
    go_ret
    exact ⟨ret_bool (by first | rfl | (rw [h0]; rfl) | (rw [h0, h1]; rfl) | (rw [h0, h1, h2]; rfl) | (rw [h0, h1, h2, h3]; rfl) | (rw [h0, h9]; rfl) | (simp [*]; done) | (simp_all; done)), O⟩

set_option maxRecDepth 100000 in
set_option maxHeartbeats 4000000 in
theorem sf_for (H : FitsAt m kk kn kc q w) :
    Calls Try.prog 27 #[.iface 93 (.agg #[.int .i64 p, .int .i64 m.kind, .int .i64 m.frm, .int .i64 m.tto, .int .i64 m.line, .int .i64 m.op, .int .i64 m.num, .float .f64 m.flt, .string m.text, .slice m.na m.nn m.nc, .slice m.ka m.nk m.kc, .slice kk kn kc])] w fun e w' => e = .returned (.bool (declP m.toPD 1 1 && ((kidsR [8, 8, 2] kn q || kidsR [8, 8, 8, 2] kn q)))) ∧ Onw w w' := by
  obtain ⟨hn, hk, hkc, hnn, hz, htx, hm⟩ := H
  have ⟨O, B⟩ := st1 w 93 #[.int .i64 p, .int .i64 m.kind, .int .i64 m.frm, .int .i64 m.tto, .int .i64 m.line, .int .i64 m.op, .int .i64 m.num, .float .f64 m.flt, .string m.text, .slice m.na m.nn m.nc, .slice m.ka m.nk m.kc, .slice kk kn kc]
  have bc := B.cell
  have a_block := as_block_no (t := 93) (by decide)
  have a_let := as_let_no (t := 93) (by decide)
  have a_const := as_const_no (t := 93) (by decide)
  have a_ownFn := as_ownFn_no (t := 93) (by decide)
  have a_set := as_set_no (t := 93) (by decide)
  have a_do := as_do_no (t := 93) (by decide)
  have a_if := as_if_no (t := 93) (by decide)
  have a_while := as_while_no (t := 93) (by decide)
  have a_for := as_for_yes
  go_enter Try.func27, Try.ntmps27
  go_wp2_with fail
  refine (declares_any m p kk kn kc 1 1 _ hnn hz (hm.onw O)).mono ?_
  rintro e w1 ⟨rfl, hb⟩
  replace B := B.onw hb
  replace O := O.trans hb
  clear hb bc
  have bc := B.cell
  rw [declP_eq]
  cases h0 : declP m.toPD 1 1
  · go_wp2_with fail
    go_ret
    exact ⟨ret_bool (by first | rfl | (rw [h0]; rfl) | (rw [h0, h1]; rfl) | (rw [h0, h1, h2]; rfl) | (rw [h0, h1, h2, h3]; rfl) | (rw [h0, h9]; rfl) | (simp [*]; done) | (simp_all; done)), O⟩
  · go_wp2_with fail
    refine (kidsAre_any m p kk kn kc q _ 3 _ (classF [8, 8, 2]) _ hn (hk.onw (O.trans (Onw.alloc _ _))) (by exact lay3 _ _ 8 8 2)).mono ?_
    rintro e v0 ⟨rfl, hb⟩
    replace hb := (Onw.alloc _ _).trans hb
    replace B := B.onw hb
    replace O := O.trans hb
    clear hb bc
    have bc := B.cell
    have hE : Hid (((kn : Int) == ((3 : Nat) : Int) && allB (fun i => hasR (roleO (q i)) (classF [8, 8, 2] i)) 0 3) = kidsR [8, 8, 2] kn q) := rfl
    rw [hE.out]
    clear hE
    cases h9 : kidsR [8, 8, 2] kn q
    rotate_left
    · go_wp2_with fail
      go_ret
      exact ⟨ret_bool (by first | rfl | (rw [h0]; rfl) | (rw [h0, h1]; rfl) | (rw [h0, h1, h2]; rfl) | (rw [h0, h1, h2, h3]; rfl) | (rw [h0, h9]; rfl) | (simp [*]; done) | (simp_all; done)), O⟩
    go_wp2_with fail
    refine (kidsAre_any m p kk kn kc q _ 4 _ (classF [8, 8, 8, 2]) _ hn (hk.onw (O.trans (Onw.alloc _ _))) (by exact lay4 _ _ 8 8 8 2)).mono ?_
    rintro e v1 ⟨rfl, hb⟩
    replace hb := (Onw.alloc _ _).trans hb
    replace B := B.onw hb
    replace O := O.trans hb
    clear hb bc
    have bc := B.cell
    have hE : Hid (((kn : Int) == ((4 : Nat) : Int) && allB (fun i => hasR (roleO (q i)) (classF [8, 8, 8, 2] i)) 0 4) = kidsR [8, 8, 8, 2] kn q) := rfl
    rw [hE.out]
    clear hE
    go_wp2_with fail
    go_ret
    exact ⟨ret_bool (by first | rfl | (rw [h0]; rfl) | (rw [h0, h1]; rfl) | (rw [h0, h1, h2]; rfl) | (rw [h0, h1, h2, h3]; rfl) | (rw [h0, h9]; rfl) | (simp [*]; done) | (simp_all; done)), O⟩

end Go.Proofs.Ytnokgdgikdgaeaa
