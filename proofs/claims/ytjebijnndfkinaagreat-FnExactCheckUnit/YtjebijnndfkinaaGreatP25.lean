import Derived.Test.YtjebijnndfkinaaGreatP24
import Derived.Test.YtjebijnndfkinaaGreatP02
namespace Go.Proofs.YtjebijnndfkinaaGreat
open Go.RowKit

theorem order_self (x : Nat) : FloatKind.f64.format.order x x = none ∨ FloatKind.f64.format.order x x = some .eq := by
  unfold Ieee.Format.order
  cases FloatKind.f64.format.read x with
  | nan => exact .inl rfl
  | infinity s => exact .inr (by simp [Ieee.Datum.order])
  | number s m i => exact .inr (by simp [Ieee.Datum.order])

theorem read_one : ∃ m i, m ≠ 0 ∧ FloatKind.f64.format.read 4607182418800017408 = .number false m i := ⟨4503599627370496, -52, by decide, by kernel_rfl⟩

theorem div_one (x : Nat) (h : FloatKind.f64.format.order x x = some .eq) : ∃ r, floatBits .quo .f64 4607182418800017408 x = some r := by
  obtain ⟨m, i, hm, ho⟩ := read_one
  show ∃ r, FloatKind.f64.format.div 4607182418800017408 x = some r
  unfold Ieee.Format.div
  rw [ho]
  unfold Ieee.Format.order at h
  cases hx : FloatKind.f64.format.read x with
  | nan => rw [hx] at h; simp [Ieee.Datum.order] at h
  | infinity s => exact ⟨_, rfl⟩
  | number s n j =>
    simp only [Ieee.Datum.quotient, hm, if_false]
    split <;> exact ⟨_, rfl⟩

set_option maxHeartbeats 400000 in
theorem sameFloat_same (x : Nat) (w : World) :
    Calls Tryz.prog 85 #[.float .f64 x, .float .f64 x] w fun e w' => e = .returned (.bool true) ∧ Onw w w' := by
  rcases order_self x with h | h
  · have h1 : (FloatKind.f64.format.order x x != some .eq) = true := by rw [h]; rfl
    go_enter Tryz.func85, Tryz.ntmps85
    go_wp2
    go_ret
    exact ⟨rfl, Onw.refl _⟩
  · have h1 : (FloatKind.f64.format.order x x != some .eq) = false := by rw [h]; rfl
    have h2 : (FloatKind.f64.format.order x x == some .eq) = true := by rw [h]; rfl
    obtain ⟨r, hr⟩ := div_one x h
    have hd := fun w => run_float_arith (P := Tryz.prog) w .quo 69 .f64 4607182418800017408 x r hr
    clear h hr
    by_cases hz : (FloatKind.f64.format.order x 0 == some .eq) = true
    · go_enter Tryz.func85, Tryz.ntmps85
      go_wp2
      go_ret
      exact ⟨by simp, Onw.refl _⟩
    · have hz' : (FloatKind.f64.format.order x 0 == some .eq) = false := by simpa using hz
      clear hz
      go_enter Tryz.func85, Tryz.ntmps85
      go_wp2
      go_ret
      exact ⟨rfl, Onw.refl _⟩

set_option maxHeartbeats 1000000 in
theorem eqNode_same (d : ND) (ra ra' ka ka' : Option Addr) (rc rc' kc kc' : Nat) (w : World) (hr : d.nr ≤ 1048576) (hk : d.nk ≤ 1048576) (a1 : IntsAt w ra d.nr d.rf) (a2 : IntsAt w ra' d.nr d.rf) (a3 : IntsAt w ka d.nk d.kd) (a4 : IntsAt w ka' d.nk d.kd) :
    Calls Tryz.prog 81 #[.agg #[.int .i64 d.kind, .int .i64 d.line, .int .i64 d.op, .int .i64 d.num, .float .f64 d.flt, .string d.str, .slice ra d.nr rc, .slice ka d.nk kc], .agg #[.int .i64 d.kind, .int .i64 d.line, .int .i64 d.op, .int .i64 d.num, .float .f64 d.flt, .string d.str, .slice ra' d.nr rc', .slice ka' d.nk kc']] w fun e w' => e = .returned (.bool true) ∧ Onw w w' := by
  go_enter Tryz.func81, Tryz.ntmps81
  go_wp2_with fail
  refine (sameFloat_same _ _).mono ?_
  rintro e w1 ⟨rfl, hb1⟩
  have B0 := Blk.onw ((Onw.alloc _ _).trans hb1) (Blk.new w 71 _)
  have B1 := Blk.onw hb1 (Blk.new _ 71 _)
  have ob : Onw w w1 := ((Onw.alloc _ _).trans (Onw.alloc _ _)).trans hb1
  simp only [World.size_alloc] at B1
  clear hb1
  have c0 := B0.cell
  have c1 := B1.cell
  go_wp2_with fail
  refine (eqIntS_same _ _ _ _ _ d.rf _ hr (by exact a1.onw ob) (by exact a2.onw ob)).mono ?_
  rintro e w2 ⟨rfl, hb2⟩
  have ob2 := ob.trans hb2
  have D0 := B0.onw hb2
  have D1 := B1.onw hb2
  clear c0 c1 B0 B1 ob hb2
  have c0 := D0.cell
  have c1 := D1.cell
  go_wp2_with fail
  refine (eqIntS_same _ _ _ _ _ d.kd _ hk (by exact a3.onw ob2) (by exact a4.onw ob2)).mono ?_
  rintro e w3 ⟨rfl, hb3⟩
  clear c0 c1
  go_wp2_with fail
  go_ret
  exact ⟨rfl, ob2.trans hb3⟩

set_option maxHeartbeats 1000000 in
theorem eqNodeS_same (a a' : Option Addr) (n c c' : Nat) (nm nm' : Nat → NM) (w : World) (hn : n ≤ 1048576) (hs : ∀ i, i < n → (nm i).nr ≤ 1048576 ∧ (nm i).nk ≤ 1048576) (hd : ∀ i, (nm' i).toND = (nm i).toND) (ha : NodesAt w a n nm) (ha' : NodesAt w a' n nm') :
    Calls Tryz.prog 69 #[.slice a n c, .slice a' n c'] w fun e w' => e = .returned (.bool true) ∧ Onw w w' := by
  have HD : Hid _ := hd
  clear hd
  go_enter Tryz.func69, Tryz.ntmps69
  go_wp2
  go_loopw [5] (fun i wr => ∃ k : Nat, k ≤ n ∧ i = .int .i64 k ∧ Onw w wr) (fun i _ => n - (intOf i).toNat)
  case atStart => exact ⟨0, Nat.zero_le _, rfl, Onw.refl _⟩
  case round =>
    obtain ⟨k, hk, rfl, hb⟩ := hrel
    by_cases hlt : k < n
    · obtain ⟨b, off, rfl, hc⟩ := (ha.onw hb).1 (by omega)
      obtain ⟨b', off', rfl, hc'⟩ := (ha'.onw hb).1 (by omega)
      obtain ⟨h0, h1, h2, h3, h4, h5, h6, h7⟩ := hc k hlt
      obtain ⟨g0, g1, g2, g3, g4, g5, g6, g7⟩ := hc' k hlt
      obtain ⟨s1, s2⟩ := hs k hlt
      have l1 := (ha.2 k hlt).onw hb
      have l2 := (ha'.2 k hlt).onw hb
      have e := HD.out k
      clear hc hc' hs
      generalize nm k = M at *
      generalize nm' k = M' at *
      obtain ⟨d, ra, rc, ka, kc⟩ := M
      obtain ⟨d', ra', rc', ka', kc'⟩ := M'
      simp only at e
      subst e
      have hi : (k : Int) < (n : Int) := by omega
      have hi0 : (0 : Int) ≤ (k : Int) := by omega
      go_wp2
      go_region_with (go_at_call 81; refine (eqNode_same d' ra ra' ka ka' rc rc' kc kc' _ s1 s2 (by exact l1.1.onw (Below.drew (Onw.refl _))) (by exact l2.1.onw (Below.drew (Onw.refl _))) (by exact l1.2.onw (Below.drew (Onw.refl _))) (by exact l2.2.onw (Below.drew (Onw.refl _)))).mono ?_; rintro e w1 ⟨rfl, hb1⟩)
      all_goals
        go_wp2
        go_roundw
        case rel => exact ⟨k + 1, by omega, by go_num, Onw.trans (Below.drew hb) hb1⟩
        case measure => simp [intOf]; omega
    · go_wp2
      go_ret
      exact ⟨rfl, hb⟩
end Go.Proofs.YtjebijnndfkinaaGreat

namespace Go.Proofs.YtjebijnndfkinaaGreat
open Go.RowKit

set_option maxHeartbeats 1000000 in
theorem eqFn_same (m m' : FM) (w : World) (hs : m.Small) (he : m'.toFD = m.toFD) (ha : m.At w) (ha' : m'.At w) :
    Calls Tryz.prog 45 #[.agg #[.string m.name, .int .i64 m.line, .int .i64 m.params, .bool m.rest, .slice m.va m.nv m.vc, .slice m.ua m.nu m.uc, .slice m.na m.nn m.nc], .agg #[.string m'.name, .int .i64 m'.line, .int .i64 m'.params, .bool m'.rest, .slice m'.va m'.nv m'.vc, .slice m'.ua m'.nu m'.uc, .slice m'.na m'.nn m'.nc]] w fun e w' => e = .returned (.bool true) ∧ Onw w w' := by
  obtain ⟨name, line, params, rest, nv, vr, nu, ul, ui, nn, nm, va, vc, ua, uc, na, nc⟩ := m
  obtain ⟨name', line', params', rest', nv', vr', nu', ul', ui', nn', nm', va', vc', ua', uc', na', nc'⟩ := m'
  simp only [FM.toFD, FD.mk.injEq] at he
  obtain ⟨rfl, rfl, rfl, rfl, rfl, rfl, rfl, rfl, rfl, rfl, hd⟩ := he
  obtain ⟨s1, s2, s3, s4⟩ := hs
  obtain ⟨a1, a2, a3⟩ := ha
  obtain ⟨b1, b2, b3⟩ := ha'
  simp only at s1 s2 s3 s4 a1 a2 a3 b1 b2 b3
  have HD : Hid _ := fun i => congrFun hd i
  have HS : Hid _ := s4
  clear hd s4
  go_enter Tryz.func45, Tryz.ntmps45
  go_wp2_with fail
  have ob : Onw w _ := (Onw.alloc w (Obj.cells #[.string name', .int .i64 line', .int .i64 params', .bool rest', .slice va nv' vc, .slice ua nu' uc, .slice na nn' nc] 61)).trans (Onw.alloc _ (Obj.cells #[.string name', .int .i64 line', .int .i64 params', .bool rest', .slice va' nv' vc', .slice ua' nu' uc', .slice na' nn' nc'] 61))
  refine (eqStringS_same _ _ _ _ _ vr' _ s1 (by exact a1.onw ob) (by exact b1.onw ob)).mono ?_
  rintro e w1 ⟨rfl, hb1⟩
  have B0 := Blk.onw ((Onw.alloc _ _).trans hb1) (Blk.new w 61 _)
  have B1 := Blk.onw hb1 (Blk.new _ 61 _)
  have ob1 : Onw w w1 := ob.trans hb1
  simp only [World.size_alloc] at B1
  clear hb1 ob
  have c0 := B0.cell
  have c1 := B1.cell
  go_wp2_with fail
  refine (eqUpS_same _ _ _ _ _ ul' ui' _ s2 (by exact a2.onw ob1) (by exact b2.onw ob1)).mono ?_
  rintro e w2 ⟨rfl, hb2⟩
  have ob2 := ob1.trans hb2
  have D0 := B0.onw hb2
  have D1 := B1.onw hb2
  clear c0 c1 B0 B1 ob1 hb2
  have c0 := D0.cell
  have c1 := D1.cell
  go_wp2_with fail
  refine (eqNodeS_same _ _ _ _ _ nm nm' _ s3 HS.out HD.out (by exact a3.onw ob2) (by exact b3.onw ob2)).mono ?_
  rintro e w3 ⟨rfl, hb3⟩
  clear c0 c1
  go_wp2_with fail
  go_ret
  exact ⟨rfl, ob2.trans hb3⟩

set_option maxHeartbeats 1000000 in
theorem eqFnS_same (a a' : Option Addr) (n c c' : Nat) (fm fm' : Nat → FM) (w : World) (hn : n ≤ 1048576) (hs : ∀ i, i < n → (fm i).Small) (hd : ∀ i, (fm' i).toFD = (fm i).toFD) (ha : FnsAt w a n fm) (ha' : FnsAt w a' n fm') :
    Calls Tryz.prog 28 #[.slice a n c, .slice a' n c'] w fun e w' => e = .returned (.bool true) ∧ Onw w w' := by
  have HD : Hid _ := hd
  clear hd
  go_enter Tryz.func28, Tryz.ntmps28
  go_wp2
  go_loopw [5] (fun i wr => ∃ k : Nat, k ≤ n ∧ i = .int .i64 k ∧ Onw w wr) (fun i _ => n - (intOf i).toNat)
  case atStart => exact ⟨0, Nat.zero_le _, rfl, Onw.refl _⟩
  case round =>
    obtain ⟨k, hk, rfl, hb⟩ := hrel
    by_cases hlt : k < n
    · obtain ⟨b, off, rfl, hc⟩ := (ha.onw hb).1 (by omega)
      obtain ⟨b', off', rfl, hc'⟩ := (ha'.onw hb).1 (by omega)
      obtain ⟨h0, h1, h2, h3, h4, h5, h6⟩ := hc k hlt
      obtain ⟨g0, g1, g2, g3, g4, g5, g6⟩ := hc' k hlt
      have s1 := hs k hlt
      have l1 := (ha.2 k hlt).onw hb
      have l2 := (ha'.2 k hlt).onw hb
      have E : Hid _ := HD.out k
      clear hc hc' hs
      generalize fm k = M at *
      generalize fm' k = M' at *
      have hi : (k : Int) < (n : Int) := by omega
      have hi0 : (0 : Int) ≤ (k : Int) := by omega
      go_wp2
      go_region_with (go_at_call 45; refine (eqFn_same M M' _ s1 E.out (by exact l1.onw (Below.drew (Onw.refl _))) (by exact l2.onw (Below.drew (Onw.refl _)))).mono ?_; rintro e w1 ⟨rfl, hb1⟩)
      all_goals
        go_wp2
        go_roundw
        case rel => exact ⟨k + 1, by omega, by go_num, Onw.trans (Below.drew hb) hb1⟩
        case measure => simp [intOf]; omega
    · go_wp2
      go_ret
      exact ⟨rfl, hb⟩

set_option maxHeartbeats 1000000 in
theorem eqUnit_same (m m' : UM) (w : World) (hn : m.nf ≤ 1048576) (hs : ∀ i, i < m.nf → (m.fm i).Small) (he : m'.toUD = m.toUD) (ha : m.At w) (ha' : m'.At w) :
    Calls Tryz.prog 9 #[.agg #[.slice m.fa m.nf m.fc], .agg #[.slice m'.fa m'.nf m'.fc]] w fun e w' => e = .returned (.bool true) ∧ Onw w w' := by
  obtain ⟨nf, fm, fa, fc⟩ := m
  obtain ⟨nf', fm', fa', fc'⟩ := m'
  simp only [UM.toUD, UD.mk.injEq] at he
  obtain ⟨rfl, hd⟩ := he
  have HD : Hid _ := fun i => congrFun hd i
  have HS : Hid _ := hs
  clear hd hs
  go_enter Tryz.func9, Tryz.ntmps9
  go_wp2_with fail
  refine (eqFnS_same _ _ _ _ _ fm fm' _ hn HS.out HD.out (by exact FnsAt.onw ((Onw.alloc _ _).trans (Onw.alloc _ _)) ha) (by exact FnsAt.onw ((Onw.alloc _ _).trans (Onw.alloc _ _)) ha')).mono ?_
  rintro e w1 ⟨rfl, hb1⟩
  go_wp2_with fail
  go_ret
  exact ⟨rfl, ((Onw.alloc _ _).trans (Onw.alloc _ _)).trans hb1⟩
end Go.Proofs.YtjebijnndfkinaaGreat

namespace Go.Proofs.YtjebijnndfkinaaGreat
open Go.RowKit

set_option maxHeartbeats 400000 in
theorem l3stat_any (k : Int) (w : World) : Calls Tryz.prog 50 #[.int .i64 k] w fun e w' => e = .returned (.bool (statB k)) ∧ w' = w := by
  go_enter Tryz.func50, Tryz.ntmps50
  go_wp2
  all_goals go_ret
  all_goals exact ⟨by simp [statB, *]; try omega, rfl⟩

set_option maxHeartbeats 400000 in
theorem l3expr_any (k : Int) (w : World) : Calls Tryz.prog 83 #[.int .i64 k] w fun e w' => e = .returned (.bool (exprB k)) ∧ w' = w := by
  go_enter Tryz.func83, Tryz.ntmps83
  go_wp2
  all_goals go_ret
  all_goals exact ⟨by simp [exprB, *]; try omega, rfl⟩

set_option maxHeartbeats 400000 in
theorem l3target_any (k : Int) (w : World) : Calls Tryz.prog 74 #[.int .i64 k] w fun e w' => e = .returned (.bool (targetB k)) ∧ w' = w := by
  go_enter Tryz.func74, Tryz.ntmps74
  go_wp2
  all_goals go_ret
  all_goals exact ⟨by simp [targetB, *], rfl⟩

set_option maxHeartbeats 400000 in
theorem l3many_any (k : Int) (w : World) : Calls Tryz.prog 75 #[.int .i64 k] w fun e w' => e = .returned (.bool (manyB k)) ∧ w' = w := by
  go_enter Tryz.func75, Tryz.ntmps75
  go_wp2
  all_goals go_ret
  all_goals exact ⟨by simp [manyB, *], rfl⟩

set_option maxHeartbeats 400000 in
theorem l3kid_any (a : Option Addr) (n c : Nat) (nm : Nat → NM) (at_ : Nat) (i : Int) (w : World) (hat : at_ < n) (hn : n ≤ 1048576) (hi : 0 ≤ i) (ha : NodesAt w a n nm) :
    Calls Tryz.prog 71 #[.slice a n c, .int .i64 at_, .int .i64 i] w fun e w' => e = .returned (.int .i64 (kidK (ndOf nm) at_ i.toNat)) ∧ w' = w := by
  obtain ⟨i, rfl⟩ := Int.eq_ofNat_of_zero_le hi
  rw [Int.toNat_natCast]
  obtain ⟨b, off, rfl, hc⟩ := ha.1 (by omega)
  have c7 := (hc at_ hat).c7
  by_cases h1 : (nm at_).nk ≤ i
  · have : Hid (kidK (ndOf nm) at_ i = 0) := by show _ = _; unfold kidK ndOf; simp [h1]
    clear hc
    go_enter Tryz.func71, Tryz.ntmps71
    go_wp2
    go_ret
    exact ⟨ret_int this.out.symm, rfl⟩
  · obtain ⟨kb, ko, hka, hk⟩ := (ha.2 at_ hat).2 (by omega)
    have hki := hk i (by omega)
    by_cases h2 : (nm at_).kd i < 0
    · have : Hid (kidK (ndOf nm) at_ i = 0) := by show _ = _; unfold kidK ndOf; simp [h1, h2]
      clear hc hk
      go_enter Tryz.func71, Tryz.ntmps71
      go_wp2
      go_ret
      exact ⟨ret_int this.out.symm, rfl⟩
    · by_cases h3 : (at_ : Int) ≤ (nm at_).kd i
      · have : Hid (kidK (ndOf nm) at_ i = 0) := by show _ = _; unfold kidK ndOf; simp [h1, h3]
        clear hc hk
        go_enter Tryz.func71, Tryz.ntmps71
        go_wp2
        go_ret
        exact ⟨ret_int this.out.symm, rfl⟩
      · obtain ⟨q, hq⟩ := Int.eq_ofNat_of_zero_le (show 0 ≤ (nm at_).kd i by omega)
        have : Hid (kidK (ndOf nm) at_ i = (nm q).kind) := by show _ = _; unfold kidK ndOf; rw [if_neg h1, if_neg (by rintro (h | h) <;> omega), hq]; rfl
        rw [hq] at hki h2 h3
        have c0 := (hc q (by omega)).c0
        clear hc hk hq
        go_enter Tryz.func71, Tryz.ntmps71
        go_wp2
        go_ret
        exact ⟨ret_int this.out.symm, rfl⟩

set_option maxHeartbeats 400000 in
theorem l3exprs_any (a : Option Addr) (n c : Nat) (nm : Nat → NM) (at_ : Nat) (f t : Int) (w : World) (hat : at_ < n) (hn : n ≤ 1048576) (hf : 0 ≤ f) (ht : 0 ≤ t) (ht2 : t ≤ 1048576) (ha : NodesAt w a n nm) :
    Calls Tryz.prog 73 #[.slice a n c, .int .i64 at_, .int .i64 f, .int .i64 t] w fun e w' => e = .returned (.bool (exprsB (ndOf nm) at_ f.toNat t.toNat)) ∧ w' = w := by
  obtain ⟨f, rfl⟩ := Int.eq_ofNat_of_zero_le hf
  obtain ⟨t, rfl⟩ := Int.eq_ofNat_of_zero_le ht
  simp only [Int.toNat_natCast]
  go_enter Tryz.func73, Tryz.ntmps73
  go_wp2
  go_loop [9] (fun i => ∃ k : Nat, f ≤ k ∧ (k ≤ t ∨ k = f) ∧ i = .int .i64 k ∧ exprsB (ndOf nm) at_ f t = allB (fun i => exprB (kidK (ndOf nm) at_ i)) k (t - k)) (fun i => t - (intOf i).toNat)
  case atStart => exact ⟨f, Nat.le_refl _, .inr rfl, rfl, rfl⟩
  case round =>
    obtain ⟨k, hk, hk2, rfl, hr⟩ := hrel
    have HR : Hid _ := hr
    clear hr
    by_cases hlt : k < t
    · go_wp2_with fail
      refine (l3kid_any _ _ _ nm _ _ _ hat hn (by omega) ha).mono ?_
      rintro e w1 ⟨rfl, rfl⟩
      rw [Int.toNat_natCast]
      go_wp2_with fail
      refine (l3expr_any _ _).mono ?_
      rintro e w1 ⟨rfl, rfl⟩
      have hs : Hid (allB (fun i => exprB (kidK (ndOf nm) at_ i)) k (t - k) = (exprB (kidK (ndOf nm) at_ k) && allB (fun i => exprB (kidK (ndOf nm) at_ i)) (k + 1) (t - (k + 1)))) := by
        rw [show t - k = (t - (k + 1)) + 1 from by omega]; rfl
      cases hx : exprB (kidK (ndOf nm) at_ k)
      · go_wp2_with fail
        go_ret
        exact ⟨ret_bool (by rw [HR.out, hs.out, hx]; rfl), rfl⟩
      · go_wp2_with fail
        go_round
        case rel => exact ⟨k + 1, by omega, by omega, by go_num, by rw [HR.out, hs.out, hx]; rfl⟩
        case measure => simp [intOf]; omega
    · have hs : Hid (allB (fun i => exprB (kidK (ndOf nm) at_ i)) k (t - k) = true) := by
        rw [show t - k = 0 from by omega]; rfl
      go_wp2
      go_ret
      exact ⟨ret_bool (by rw [HR.out, hs.out]), rfl⟩

set_option maxHeartbeats 1000000 in
theorem l3bare_any (m : NM) (op num flt str : Bool) (refs : Int) (w : World) (hfl : op.toNat + num.toNat + flt.toNat + str.toNat ≤ 1) :
    Calls Tryz.prog 72 #[.agg #[.int .i64 m.kind, .int .i64 m.line, .int .i64 m.op, .int .i64 m.num, .float .f64 m.flt, .string m.str, .slice m.ra m.nr m.rc, .slice m.ka m.nk m.kc], .bool op, .bool num, .bool flt, .bool str, .int .i64 refs] w fun e w' => e = .returned (.bool (bareB m.toND op num flt str refs)) ∧ w' = w.alloc (.cells #[.int .i64 m.kind, .int .i64 m.line, .int .i64 m.op, .int .i64 m.num, .float .f64 m.flt, .string m.str, .slice m.ra m.nr m.rc, .slice m.ka m.nk m.kc] 71) := by
  cases op <;> cases num <;> cases flt <;> cases str <;> first | (exfalso; revert hfl; decide) | skip
  all_goals
    clear hfl
    go_enter Tryz.func72, Tryz.ntmps72
    go_wp2
    all_goals go_ret
    all_goals exact ⟨ret_bool (by simp_all [bareB, fzero]), by first | rfl | simp [*]⟩
end Go.Proofs.YtjebijnndfkinaaGreat

namespace Go.Proofs.YtjebijnndfkinaaGreat
open Go.RowKit
attribute [local go_sem] run_store_float

set_option maxRecDepth 100000 in
set_option maxHeartbeats 2000000 in
theorem l3statement_6 (a : Option Addr) (n c : Nat) (nm : Nat → NM) (at_ : Nat) (w : World) (hat : at_ < n) (hn : n ≤ 1048576) (hk : (nm at_).nk ≤ 1048576) (hkd : (nm at_).kind = 6) (ha : NodesAt w a n nm) :
    Calls Tryz.prog 51 #[.slice a n c, .int .i64 at_] w fun e w' => e = .returned (.bool (stmtB (ndOf nm) at_)) ∧ Onw w w' := by
  obtain ⟨b, off, rfl, hc⟩ := ha.1 (by omega)
  obtain ⟨c0, c1, c2, c3, c4, c5, c6, c7⟩ := hc at_ hat
  clear hc
  have e1 : ((nm at_).kind == 1) = false := by simp [hkd]
  have e2 : ((nm at_).kind == 2) = false := by simp [hkd]
  have e3 : ((nm at_).kind == 3) = false := by simp [hkd]
  have e4 : ((nm at_).kind == 4) = false := by simp [hkd]
  have e14 : ((nm at_).kind == 14) = false := by simp [hkd]
  have e5 : ((nm at_).kind == 5) = false := by simp [hkd]
  have e6 : ((nm at_).kind == 6) = true := by simp [hkd]
  have fin : Hid (stmtB (ndOf nm) at_ = (((nm at_).nk : Int) == 2 && exprsB (ndOf nm) at_ 0 1 && blockB (ndOf nm) at_ && bareB (nm at_).toND false false false false 0)) := by
    show _ = _
    simp only [stmtB, ndOf, hkd]; rfl
  have HK : Hid _ := hkd
  clear hkd
  go_enter Tryz.func51, Tryz.ntmps51
  go_wp2_with (first
    | (go_at_call 71; refine (l3kid_any _ _ _ nm _ _ _ hat hn (by omega) (by exact ha.onw (Onw.alloc _ _))).mono ?_; rintro e w1 ⟨rfl, rfl⟩)
    | (go_at_call 73; refine (l3exprs_any _ _ _ nm _ _ _ _ hat hn (by omega) (by omega) (by omega) (by first | exact ha.onw (Onw.alloc _ _) | exact ha.onw ((Onw.alloc _ _).trans (Onw.alloc _ _)))).mono ?_; rintro e w1 ⟨rfl, rfl⟩)
    | (go_at_call 72; refine (l3bare_any (nm at_) _ _ _ _ _ _ (by decide)).mono ?_; rintro e w1 ⟨rfl, rfl⟩))
  all_goals go_ret
  all_goals exact ⟨ret_bool (by rw [fin.out]; simp_all [blockB, ndOf] <;> omega), by first | exact Onw.alloc _ _ | exact (Onw.alloc _ _).trans (Onw.alloc _ _)⟩

set_option maxRecDepth 100000 in
set_option maxHeartbeats 2000000 in
theorem l3statement_7 (a : Option Addr) (n c : Nat) (nm : Nat → NM) (at_ : Nat) (w : World) (hat : at_ < n) (hn : n ≤ 1048576) (hk : (nm at_).nk ≤ 1048576) (hkd : (nm at_).kind = 7) (ha : NodesAt w a n nm) :
    Calls Tryz.prog 51 #[.slice a n c, .int .i64 at_] w fun e w' => e = .returned (.bool (stmtB (ndOf nm) at_)) ∧ Onw w w' := by
  obtain ⟨b, off, rfl, hc⟩ := ha.1 (by omega)
  obtain ⟨c0, c1, c2, c3, c4, c5, c6, c7⟩ := hc at_ hat
  clear hc
  have e1 : ((nm at_).kind == 1) = false := by simp [hkd]
  have e2 : ((nm at_).kind == 2) = false := by simp [hkd]
  have e3 : ((nm at_).kind == 3) = false := by simp [hkd]
  have e4 : ((nm at_).kind == 4) = false := by simp [hkd]
  have e14 : ((nm at_).kind == 14) = false := by simp [hkd]
  have e5 : ((nm at_).kind == 5) = false := by simp [hkd]
  have e6 : ((nm at_).kind == 6) = false := by simp [hkd]
  have e7 : ((nm at_).kind == 7) = true := by simp [hkd]
  have fin : Hid (stmtB (ndOf nm) at_ = (((nm at_).nk : Int) == 4 && exprsB (ndOf nm) at_ 0 3 && blockB (ndOf nm) at_ && bareB (nm at_).toND false false false false 1)) := by
    show _ = _
    simp only [stmtB, ndOf, hkd]; rfl
  have HK : Hid _ := hkd
  clear hkd
  go_enter Tryz.func51, Tryz.ntmps51
  go_wp2_with (first
    | (go_at_call 71; refine (l3kid_any _ _ _ nm _ _ _ hat hn (by omega) (by exact ha.onw (Onw.alloc _ _))).mono ?_; rintro e w1 ⟨rfl, rfl⟩)
    | (go_at_call 73; refine (l3exprs_any _ _ _ nm _ _ _ _ hat hn (by omega) (by omega) (by omega) (by first | exact ha.onw (Onw.alloc _ _) | exact ha.onw ((Onw.alloc _ _).trans (Onw.alloc _ _)))).mono ?_; rintro e w1 ⟨rfl, rfl⟩)
    | (go_at_call 72; refine (l3bare_any (nm at_) _ _ _ _ _ _ (by decide)).mono ?_; rintro e w1 ⟨rfl, rfl⟩))
  all_goals go_ret
  all_goals exact ⟨ret_bool (by rw [fin.out]; simp_all [blockB, ndOf] <;> omega), by first | exact Onw.alloc _ _ | exact (Onw.alloc _ _).trans (Onw.alloc _ _)⟩

set_option maxRecDepth 100000 in
set_option maxHeartbeats 2000000 in
theorem l3statement_8 (a : Option Addr) (n c : Nat) (nm : Nat → NM) (at_ : Nat) (w : World) (hat : at_ < n) (hn : n ≤ 1048576) (hk : (nm at_).nk ≤ 1048576) (hkd : (nm at_).kind = 8) (ha : NodesAt w a n nm) :
    Calls Tryz.prog 51 #[.slice a n c, .int .i64 at_] w fun e w' => e = .returned (.bool (stmtB (ndOf nm) at_)) ∧ Onw w w' := by
  obtain ⟨b, off, rfl, hc⟩ := ha.1 (by omega)
  obtain ⟨c0, c1, c2, c3, c4, c5, c6, c7⟩ := hc at_ hat
  clear hc
  have e1 : ((nm at_).kind == 1) = false := by simp [hkd]
  have e2 : ((nm at_).kind == 2) = false := by simp [hkd]
  have e3 : ((nm at_).kind == 3) = false := by simp [hkd]
  have e4 : ((nm at_).kind == 4) = false := by simp [hkd]
  have e14 : ((nm at_).kind == 14) = false := by simp [hkd]
  have e5 : ((nm at_).kind == 5) = false := by simp [hkd]
  have e6 : ((nm at_).kind == 6) = false := by simp [hkd]
  have e7 : ((nm at_).kind == 7) = false := by simp [hkd]
  have e8 : ((nm at_).kind == 8) = true := by simp [hkd]
  have fin : Hid (stmtB (ndOf nm) at_ = (((nm at_).nk : Int) == 2 && decide (1 ≤ (nm at_).nr) && decide ((nm at_).nr ≤ 4) && exprsB (ndOf nm) at_ 0 1 && blockB (ndOf nm) at_ && bareB (nm at_).toND false false false false (nm at_).nr)) := by
    show _ = _
    simp only [stmtB, ndOf, hkd]; rfl
  have HK : Hid _ := hkd
  clear hkd
  go_enter Tryz.func51, Tryz.ntmps51
  go_wp2_with (first
    | (go_at_call 71; refine (l3kid_any _ _ _ nm _ _ _ hat hn (by omega) (by exact ha.onw (Onw.alloc _ _))).mono ?_; rintro e w1 ⟨rfl, rfl⟩)
    | (go_at_call 73; refine (l3exprs_any _ _ _ nm _ _ _ _ hat hn (by omega) (by omega) (by omega) (by first | exact ha.onw (Onw.alloc _ _) | exact ha.onw ((Onw.alloc _ _).trans (Onw.alloc _ _)))).mono ?_; rintro e w1 ⟨rfl, rfl⟩)
    | (go_at_call 72; refine (l3bare_any (nm at_) _ _ _ _ _ _ (by decide)).mono ?_; rintro e w1 ⟨rfl, rfl⟩))
  all_goals go_ret
  all_goals exact ⟨ret_bool (by rw [fin.out]; simp_all [blockB, ndOf] <;> omega), by first | exact Onw.alloc _ _ | exact (Onw.alloc _ _).trans (Onw.alloc _ _)⟩
end Go.Proofs.YtjebijnndfkinaaGreat

namespace Go.Proofs.YtjebijnndfkinaaGreat
open Go.RowKit
attribute [local go_sem] run_store_float

set_option maxRecDepth 100000 in
set_option maxHeartbeats 2000000 in
theorem l3statement_4 (a : Option Addr) (n c : Nat) (nm : Nat → NM) (at_ : Nat) (w : World) (hat : at_ < n) (hn : n ≤ 1048576) (hk : (nm at_).nk ≤ 1048576) (hkd : (nm at_).kind = 4) (ha : NodesAt w a n nm) :
    Calls Tryz.prog 51 #[.slice a n c, .int .i64 at_] w fun e w' => e = .returned (.bool (stmtB (ndOf nm) at_)) ∧ Onw w w' := by
  obtain ⟨b, off, rfl, hc⟩ := ha.1 (by omega)
  obtain ⟨c0, c1, c2, c3, c4, c5, c6, c7⟩ := hc at_ hat
  clear hc
  have e1 : ((nm at_).kind == 1) = false := by simp [hkd]
  have e2 : ((nm at_).kind == 2) = false := by simp [hkd]
  have e3 : ((nm at_).kind == 3) = false := by simp [hkd]
  have e4 : ((nm at_).kind == 4) = true := by simp [hkd]
  have fin : Hid (stmtB (ndOf nm) at_ = (((nm at_).nk : Int) == 1 && kidK (ndOf nm) at_ 0 == 34 && bareB (nm at_).toND false false false false 0)) := by
    show _ = _
    simp only [stmtB, ndOf, hkd]; rfl
  have HK : Hid _ := hkd
  clear hkd
  go_enter Tryz.func51, Tryz.ntmps51
  go_wp2_with (first
    | (go_at_call 71; refine (l3kid_any _ _ _ nm _ _ _ hat hn (by omega) (by exact ha.onw (Onw.alloc _ _))).mono ?_; rintro e w1 ⟨rfl, rfl⟩)
    | (go_at_call 73; refine (l3exprs_any _ _ _ nm _ _ _ _ hat hn (by omega) (by omega) (by omega) (by first | exact ha.onw (Onw.alloc _ _) | exact ha.onw ((Onw.alloc _ _).trans (Onw.alloc _ _)))).mono ?_; rintro e w1 ⟨rfl, rfl⟩)
    | (go_at_call 72; refine (l3bare_any (nm at_) _ _ _ _ _ _ (by decide)).mono ?_; rintro e w1 ⟨rfl, rfl⟩))
  all_goals go_ret
  all_goals exact ⟨ret_bool (by rw [fin.out]; simp_all <;> omega), by first | exact Onw.alloc _ _ | exact (Onw.alloc _ _).trans (Onw.alloc _ _)⟩

set_option maxRecDepth 100000 in
set_option maxHeartbeats 2000000 in
theorem l3statement_14 (a : Option Addr) (n c : Nat) (nm : Nat → NM) (at_ : Nat) (w : World) (hat : at_ < n) (hn : n ≤ 1048576) (hk : (nm at_).nk ≤ 1048576) (hkd : (nm at_).kind = 14) (ha : NodesAt w a n nm) :
    Calls Tryz.prog 51 #[.slice a n c, .int .i64 at_] w fun e w' => e = .returned (.bool (stmtB (ndOf nm) at_)) ∧ Onw w w' := by
  obtain ⟨b, off, rfl, hc⟩ := ha.1 (by omega)
  obtain ⟨c0, c1, c2, c3, c4, c5, c6, c7⟩ := hc at_ hat
  clear hc
  have e1 : ((nm at_).kind == 1) = false := by simp [hkd]
  have e2 : ((nm at_).kind == 2) = false := by simp [hkd]
  have e3 : ((nm at_).kind == 3) = false := by simp [hkd]
  have e4 : ((nm at_).kind == 4) = false := by simp [hkd]
  have e14 : ((nm at_).kind == 14) = true := by simp [hkd]
  have fin : Hid (stmtB (ndOf nm) at_ = (((nm at_).nk : Int) == 1 && kidK (ndOf nm) at_ 0 == 34 && bareB (nm at_).toND false false false false 0)) := by
    show _ = _
    simp only [stmtB, ndOf, hkd]; rfl
  have HK : Hid _ := hkd
  clear hkd
  go_enter Tryz.func51, Tryz.ntmps51
  go_wp2_with (first
    | (go_at_call 71; refine (l3kid_any _ _ _ nm _ _ _ hat hn (by omega) (by exact ha.onw (Onw.alloc _ _))).mono ?_; rintro e w1 ⟨rfl, rfl⟩)
    | (go_at_call 73; refine (l3exprs_any _ _ _ nm _ _ _ _ hat hn (by omega) (by omega) (by omega) (by first | exact ha.onw (Onw.alloc _ _) | exact ha.onw ((Onw.alloc _ _).trans (Onw.alloc _ _)))).mono ?_; rintro e w1 ⟨rfl, rfl⟩)
    | (go_at_call 72; refine (l3bare_any (nm at_) _ _ _ _ _ _ (by decide)).mono ?_; rintro e w1 ⟨rfl, rfl⟩))
  all_goals go_ret
  all_goals exact ⟨ret_bool (by rw [fin.out]; simp_all <;> omega), by first | exact Onw.alloc _ _ | exact (Onw.alloc _ _).trans (Onw.alloc _ _)⟩

set_option maxRecDepth 100000 in
set_option maxHeartbeats 2000000 in
theorem l3statement_5 (a : Option Addr) (n c : Nat) (nm : Nat → NM) (at_ : Nat) (w : World) (hat : at_ < n) (hn : n ≤ 1048576) (hk : (nm at_).nk ≤ 1048576) (hkd : (nm at_).kind = 5) (ha : NodesAt w a n nm) :
    Calls Tryz.prog 51 #[.slice a n c, .int .i64 at_] w fun e w' => e = .returned (.bool (stmtB (ndOf nm) at_)) ∧ Onw w w' := by
  obtain ⟨b, off, rfl, hc⟩ := ha.1 (by omega)
  obtain ⟨c0, c1, c2, c3, c4, c5, c6, c7⟩ := hc at_ hat
  clear hc
  have e1 : ((nm at_).kind == 1) = false := by simp [hkd]
  have e2 : ((nm at_).kind == 2) = false := by simp [hkd]
  have e3 : ((nm at_).kind == 3) = false := by simp [hkd]
  have e4 : ((nm at_).kind == 4) = false := by simp [hkd]
  have e14 : ((nm at_).kind == 14) = false := by simp [hkd]
  have e5 : ((nm at_).kind == 5) = true := by simp [hkd]
  have fin : Hid (stmtB (ndOf nm) at_ = ((((nm at_).nk : Int) == 2 || ((nm at_).nk : Int) == 3 && (kidK (ndOf nm) at_ 2 == 1 || kidK (ndOf nm) at_ 2 == 5)) && exprsB (ndOf nm) at_ 0 1 && kidK (ndOf nm) at_ 1 == 1 && bareB (nm at_).toND false false false false 0)) := by
    show _ = _
    simp only [stmtB, ndOf, hkd]; rfl
  have HK : Hid _ := hkd
  clear hkd
  go_enter Tryz.func51, Tryz.ntmps51
  go_wp2_with (first
    | (go_at_call 71; refine (l3kid_any _ _ _ nm _ _ _ hat hn (by omega) (by exact ha.onw (Onw.alloc _ _))).mono ?_; rintro e w1 ⟨rfl, rfl⟩)
    | (go_at_call 73; refine (l3exprs_any _ _ _ nm _ _ _ _ hat hn (by omega) (by omega) (by omega) (by first | exact ha.onw (Onw.alloc _ _) | exact ha.onw ((Onw.alloc _ _).trans (Onw.alloc _ _)))).mono ?_; rintro e w1 ⟨rfl, rfl⟩)
    | (go_at_call 72; refine (l3bare_any (nm at_) _ _ _ _ _ _ (by decide)).mono ?_; rintro e w1 ⟨rfl, rfl⟩))
  all_goals go_ret
  all_goals exact ⟨ret_bool (by rw [fin.out]; simp_all <;> omega), by first | exact Onw.alloc _ _ | exact (Onw.alloc _ _).trans (Onw.alloc _ _)⟩
end Go.Proofs.YtjebijnndfkinaaGreat
