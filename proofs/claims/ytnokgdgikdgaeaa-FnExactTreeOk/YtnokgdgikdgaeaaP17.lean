import Derived.Test.YtnokgdgikdgaeaaP16
import Derived.Test.YtnokgdgikdgaeaaP02
import Derived.Test.YtnokgdgikdgaeaaP07
import Derived.Deep.QuietTactic
import Derived.BigQuiet
import Derived.BigRegion
import Derived.Deep.RegionWith
import Derived.Deep.DeepCutAuto
namespace Go.Proofs.Ytnokgdgikdgaeaa
open Go.RowKit
attribute [local go_sem] run_store_float

/-- An array of whole numbers. -/
def Arr (c : Array Value) (n : Nat) (f : Nat → Int) : Prop := c.size = n ∧ ∀ k, k < n → c[k]? = some (.int .i64 (f k))
theorem Arr.set {c : Array Value} {n : Nat} {f : Nat → Int} (h : Arr c n f) (i : Nat) (v : Int) {g : Nat → Int} (hg : ∀ k, k < n → g k = if k = i then v else f k) : Arr (c.setIfInBounds i (.int .i64 v)) n g := by
  refine ⟨by simpa using h.1, fun k hk => ?_⟩
  rw [hg k hk]
  by_cases e : i = k
  · subst e; simp [h.1, hk]
  · simp only [if_neg (fun x : k = i => e x.symm)]
    have := h.2 k hk
    simp only [Array.getElem?_setIfInBounds, e, if_false]; exact this
theorem Arr.congr {c : Array Value} {n : Nat} {f g : Nat → Int} (h : Arr c n f) (e : ∀ k, k < n → g k = f k) : Arr c n g := ⟨h.1, fun k hk => by rw [e k hk]; exact h.2 k hk⟩
theorem made_int (n i : Nat) (h : i < n) : (madeCells #[.int .i64 0] n)[i]? = some (.int .i64 0) := by
  simp [madeCells, h, Nat.mod_one]

/-- The kids from the last to the first, each just ahead of what stands behind it: where they begin. -/
def downS (S : Nat → Int) (kd : Nat → Int) : Nat → Int → Option Int
  | 0, a => some a
  | j + 1, a => bif (kd j == a - 1) && !(S (kd j).toNat == 0) then downS S kd j (a - S (kd j).toNat) else none
def fromDown (i : Nat) : Option Int → Int
  | some a => i - a + 1
  | none => 0
def sizesN (pd : Nat → PD) : Nat → Nat → Int
  | 0 => fun _ => 0
  | i + 1 => fun k => if k = i then fromDown i (downS (sizesN pd i) (pd i).kd (pd i).nk i) else sizesN pd i k

theorem downS_le {S kd : Nat → Int} (hS : ∀ k : Nat, 0 ≤ S k ∧ S k ≤ k + 1) : ∀ (j : Nat) (a r : Int), (∀ q, q < j → 0 ≤ kd q) → 0 ≤ a → downS S kd j a = some r → 0 ≤ r ∧ r ≤ a
  | 0, a, r, _, h0, h => by simp only [downS, Option.some.injEq] at h; omega
  | j + 1, a, r, hk, h0, h => by
    unfold downS at h
    cases hc : (kd j == a - 1) && !(S (kd j).toNat == 0)
    · rw [hc] at h; simp at h
    · rw [hc] at h
      simp only [cond_true] at h
      have k0 := hk j (by omega)
      have s0 := hS (kd j).toNat
      simp only [Bool.and_eq_true, beq_iff_eq, Bool.not_eq_true', beq_eq_false_iff_ne] at hc
      have := downS_le hS j _ r (fun q hq => hk q (by omega)) (by omega) h
      omega
theorem sizesN_le {pd : Nat → PD} {np : Nat} (hks : ∀ i, i < np → ∀ j, j < (pd i).nk → 0 ≤ (pd i).kd j) : ∀ i, i ≤ np → ∀ k : Nat, 0 ≤ sizesN pd i k ∧ sizesN pd i k ≤ k + 1
  | 0, _, k => by simp only [sizesN]; omega
  | i + 1, hi, k => by
    have ih := sizesN_le hks i (by omega)
    simp only [sizesN]
    by_cases e : k = i
    · rw [if_pos e]
      cases hd : downS (sizesN pd i) (pd i).kd (pd i).nk i
      · simp only [fromDown]; omega
      · have := downS_le ih _ _ _ (hks i (by omega)) (by omega) hd
        simp only [fromDown]; omega
    · rw [if_neg e]; exact ih k

theorem sizesN_zero (pd : Nat → PD) : ∀ i k, i ≤ k → sizesN pd i k = 0
  | 0, _, _ => rfl
  | i + 1, k, h => by simp only [sizesN]; rw [if_neg (by omega)]; exact sizesN_zero pd i k (by omega)
theorem downS_step {S kd : Nat → Int} {q k : Nat} {x : Int} (h : kd q = (k : Int)) (e : (k : Int) = x - 1) (z : S k ≠ 0) : downS S kd (q + 1) x = downS S kd q (x - S k) := by
  rw [downS, h, Int.toNat_natCast, beq_iff_eq.mpr e, beq_false_of_ne z]; rfl
theorem downS_off {S kd : Nat → Int} {q k : Nat} {x : Int} (h : kd q = (k : Int)) (e : ¬ (k : Int) = x - 1) : downS S kd (q + 1) x = none := by
  rw [downS, h, Int.toNat_natCast, beq_false_of_ne e]; rfl
theorem downS_nil {S kd : Nat → Int} {q k : Nat} {x : Int} (h : kd q = (k : Int)) (z : S k = 0) : downS S kd (q + 1) x = none := by
  rw [downS, h, Int.toNat_natCast, z]; simp

/-- The tree's box and the block of sizes. -/
structure SzAt (w0 w : World) (pa : Option Addr) (np pc g : Nat) (c : Array Value) : Prop where
  onw : Onw w0 w
  t0 : Blk w w0.heap.size 31 #[.slice pa np pc]
  b1 : Blk w g 3 c
  d : w0.heap.size < g
theorem SzAt.set {w0 w : World} {pa : Option Addr} {np pc g : Nat} {c : Array Value} (G : SzAt w0 w pa np pc g c) (i : Nat) (v : Value) : SzAt w0 (w.setCell ⟨g, i, none⟩ v) pa np pc g (c.setIfInBounds i v) := by
  obtain ⟨h1, h2, h3, h4⟩ := G
  exact ⟨below_set h1 (by omega) v, h2.kept (kept_setCell w g i v) (by omega), h3.set i v, h4⟩
theorem SzAt.on {w0 w w' : World} {pa : Option Addr} {np pc g : Nat} {c : Array Value} (G : SzAt w0 w pa np pc g c) (h : Onw w w') : SzAt w0 w' pa np pc g c :=
  ⟨G.onw.trans h, G.t0.onw h, G.b1.onw h, G.d⟩

set_option maxRecDepth 100000 in
set_option maxHeartbeats 2000000 in
theorem l6sizes_any (t : TM) (w : World) (h0 : 0 < t.np) (hn : t.np ≤ 1048576) (hkn : ∀ i, i < t.np → (t.pm i).nk ≤ 1048576) (hks : ∀ i, i < t.np → ∀ j, j < (t.pm i).nk → 0 ≤ (t.pm i).kd j ∧ (t.pm i).kd j < i) (ht : t.At w) :
    Calls Try.prog 12 #[.agg #[.slice t.pa t.np t.pc]] w fun e w' => ∃ a, e = .returned (.slice a t.np t.np) ∧ Onw w w' ∧ IntsAt w' a t.np (sizesN (pdOf t.pm) t.np) ∧ Frm w.heap.size a := by
  obtain ⟨np, pm, pa, pc⟩ := t
  simp only at *
  have hmk := run_make_ints np hn
  have HKS : Hid _ := hks
  have HKN : Hid _ := hkn
  have HT : Hid _ := ht
  have HS : Hid _ := sizesN_le (pd := pdOf pm) (np := np) fun i hi j hj => (hks i hi j hj).1
  clear hks hkn ht
  go_enter Try.func12, Try.ntmps12
  go_wp2_with fail
  clear hmk
  go_loopw [17] (fun x wr => ∃ i : Nat, i ≤ np ∧ x = .int .i64 i ∧ ∃ c, SzAt w wr pa np pc (w.heap.size + 1) c ∧ Arr c np (sizesN (pdOf pm) i)) (fun x _ => np - (intOf x).toNat)
  case atStart =>
    refine ⟨0, Nat.zero_le _, rfl, _, ⟨(Onw.alloc _ _).trans (Onw.alloc _ _), (Blk.new _ _ _).onw (Onw.alloc _ _), ?_, by omega⟩, size_madeCells _ _, fun k hk => made_int np k hk⟩
    have := Blk.new (w.alloc (Obj.cells #[.slice pa np pc] 31)) 3 (madeCells #[.int .i64 0] np)
    simpa only [World.size_alloc] using this
  case round =>
    obtain ⟨i, hi, rfl, c, G, A⟩ := hrel
    have HG : Hid _ := G
    have HA : Hid _ := A
    clear G A
    by_cases hlt : i < np
    · obtain ⟨b, off, hpa, hc⟩ := (PartsAt.onw HG.out.onw HT.out).1 (by show 0 < np; omega)
      subst hpa
      obtain ⟨p0, p1, p2, p3, p4, p5, p6, p7, p8, p9⟩ := hc i hlt
      clear hc
      have hI := (HT.out.2 i hlt).2
      have hkn' := HKN.out i hlt
      have zb := cell_lt p0
      obtain ⟨KA, hKA⟩ : ∃ KA, (pm i).ka = KA := ⟨_, rfl⟩
      rw [hKA] at p9 hI
      clear hKA
      obtain ⟨w0, hw0⟩ : ∃ x, x = wr := ⟨_, rfl⟩
      subst hw0
      go_wp2_with fail
      have B := Blk.new w0 41 #[.int .i64 (pm i).kind, .int .i64 (pm i).frm, .int .i64 (pm i).tto, .int .i64 (pm i).line, .int .i64 (pm i).op, .int .i64 (pm i).num, .float .f64 (pm i).flt, .string (pm i).text, .slice (pm i).na (pm i).nn (pm i).nc, .slice KA (pm i).nk (pm i).kc]
      have O2 := Onw.alloc w0 (Obj.cells #[.int .i64 (pm i).kind, .int .i64 (pm i).frm, .int .i64 (pm i).tto, .int .i64 (pm i).line, .int .i64 (pm i).op, .int .i64 (pm i).num, .float .f64 (pm i).flt, .string (pm i).text, .slice (pm i).na (pm i).nn (pm i).nc, .slice KA (pm i).nk (pm i).kc] 41)
      clear p0 p1 p2 p3 p4 p5 p6 p7 p8 p9
      have G2 := HG.out.on O2
      generalize w0.alloc (Obj.cells #[.int .i64 (pm i).kind, .int .i64 (pm i).frm, .int .i64 (pm i).tto, .int .i64 (pm i).line, .int .i64 (pm i).op, .int .i64 (pm i).num, .float .f64 (pm i).flt, .string (pm i).text, .slice (pm i).na (pm i).nn (pm i).nc, .slice KA (pm i).nk (pm i).kc] 41) = w2 at B O2 G2 ⊢
      have x9 : w2.cell? ⟨w0.heap.size, 9, none⟩ = some (.slice KA (pm i).nk (pm i).kc) := by rw [B.cell]; rfl
      clear B
      go_loopw [6, 7, 8] (fun a o j wr2 => ∃ (q : Nat) (x : Int), q ≤ (pm i).nk ∧ a = .int .i64 x ∧ o = .bool true ∧ j = .int .i64 ((q : Int) - 1) ∧ 0 ≤ x ∧ x ≤ i ∧ Onw w2 wr2 ∧ downS (sizesN (pdOf pm) i) (pm i).kd (pm i).nk i = downS (sizesN (pdOf pm) i) (pm i).kd q x) (fun _ _ j _ => (intOf j + 1).toNat)
      case atStart => exact ⟨(pm i).nk, i, Nat.le_refl _, rfl, rfl, rfl, by omega, by omega, Onw.refl _, rfl⟩
      case round =>
        obtain ⟨q, x, hq, rfl, rfl, hj, hx0, hx1, ob2, hd⟩ := hrel
        have HD : Hid _ := hd
        have HG3 : Hid _ := G2.on ob2
        replace x9 := cell_onw ob2 x9
        have z9 := cell_lt x9
        have zg := HG3.out.b1.lt
        clear hd
        by_cases hq0 : 0 < q
        · obtain ⟨q', rfl⟩ : ∃ q', q = q' + 1 := ⟨q - 1, by omega⟩
          rw [show (((q' + 1 : Nat) : Int) - 1) = (q' : Int) from by omega] at hj
          subst hj
          obtain ⟨kb, ko, hka, hcc⟩ := hI.onw ((HG.out.onw).trans (O2.trans ob2)) (by omega)
          subst hka
          have k0 := hcc q' (by omega)
          clear hcc
          obtain ⟨j0, j1⟩ := HKS.out i hlt q' (by omega)
          obtain ⟨k, hk⟩ := Int.eq_ofNat_of_zero_le j0
          have HK : Hid _ := hk
          rw [hk] at k0 j1
          clear hk j0
          obtain ⟨sv, hsv⟩ : ∃ sv, sizesN (pdOf pm) i k = sv := ⟨_, rfl⟩
          have hb := HS.out i (by omega) k
          rw [hsv] at hb
          have s0 : wr.cell? ⟨w.heap.size + 1, k, none⟩ = some (.int .i64 sv) := by
            rw [HG3.out.b1.cell, ← hsv]; exact HA.out.2 k (by omega)
          have HV : Hid _ := hsv
          clear hsv
          obtain ⟨b0, b1⟩ := hb
          have zk := cell_lt k0
          have kn : (k : Int) < (np : Int) := by omega
          have qn : (q' : Int) < ((pm i).nk : Int) := by omega
          by_cases y0 : (k : Int) = x - 1
          · obtain rfl : x = (k : Int) + 1 := by omega
            clear y0
            by_cases y1 : sv = 0
            · subst y1
              go_wp2_with fail
              go_roundw
              case rel =>
                refine ⟨i + 1, by omega, by go_num, c, ?_, Arr.congr HA.out fun m _ => ?_⟩
                · first | exact HG3.out | exact HG3.out.on (Below.drew (Onw.refl _)) | exact HG3.out.on (below_drewN (Onw.refl _) _)
                · simp only [sizesN]
                  by_cases e : m = i
                  · rw [if_pos e, e, sizesN_zero _ i i (Nat.le_refl _)]
                    show fromDown i (downS (sizesN (pdOf pm) i) (pm i).kd (pm i).nk i) = 0
                    rw [HD.out, downS_nil HK.out HV.out]; rfl
                  · rw [if_neg e]
              case measure => simp [intOf] <;> omega
            · go_wp2_with fail
              go_roundw
              case rel => exact ⟨q', (k : Int) + 1 - sv, by omega, by go_num, rfl, by go_num, by omega, by omega, by first | exact ob2 | exact ob2.trans (Below.drew (Onw.refl _)) | exact ob2.trans (below_drewN (Onw.refl _) _), by rw [HD.out, downS_step HK.out (by omega) (by rw [HV.out]; exact y1), HV.out]⟩
              case measure => simp [intOf] <;> omega
          ·
            go_wp2_with fail
            go_roundw
            case rel =>
              refine ⟨i + 1, by omega, by go_num, c, ?_, Arr.congr HA.out fun m _ => ?_⟩
              · first | exact HG3.out | exact HG3.out.on (Below.drew (Onw.refl _)) | exact HG3.out.on (below_drewN (Onw.refl _) _)
              · simp only [sizesN]
                by_cases e : m = i
                · rw [if_pos e, e, sizesN_zero _ i i (Nat.le_refl _)]
                  show fromDown i (downS (sizesN (pdOf pm) i) (pm i).kd (pm i).nk i) = 0
                  rw [HD.out, downS_off HK.out (by omega)]; rfl
                · rw [if_neg e]
            case measure => simp [intOf] <;> omega
        · obtain rfl : q = 0 := by omega
          subst hj
          have f1 := HG3.out.b1.free
          obtain ⟨v0, gx⟩ := HG3.out.b1.some (j := i) (by rw [HA.out.1]; exact hlt)
          have xi : (i : Int) - x + 1 ≤ 1048577 := by omega
          go_wp2_with fail
          go_roundw
          case rel =>
            refine ⟨i + 1, by omega, by go_num, _, HG3.out.set i _, Arr.set HA.out i _ fun m _ => ?_⟩
            simp only [sizesN]
            by_cases e : m = i
            · rw [if_pos e, if_pos e]
              show fromDown i (downS (sizesN (pdOf pm) i) (pm i).kd (pm i).nk i) = _
              rw [HD.out]; rfl
            · rw [if_neg e, if_neg e]
          case measure => simp [intOf] <;> omega
    · go_wp2_with fail
      go_ret
      have : i = np := by omega
      subst this
      refine ⟨_, rfl, HG.out.onw, fun _ => ⟨_, _, rfl, fun k hk => ?_⟩, ?_⟩
      · rw [HG.out.b1.cell]; simpa using HA.out.2 k hk
      · intro x hx; cases hx; exact Nat.le_succ _
end Go.Proofs.Ytnokgdgikdgaeaa

namespace Go.Proofs.Ytnokgdgikdgaeaa
open Go.RowKit
attribute [local go_sem] run_store_float

/-- The first of n from i on that fails. -/
def firstBad (f : Nat → Bool) : Nat → Nat → Option Nat
  | _, 0 => none
  | i, n + 1 => bif f i then firstBad f (i + 1) n else some i
theorem firstBad_ok {f : Nat → Bool} {i n : Nat} (h : i < n) (hf : f i = true) : firstBad f i (n - i) = firstBad f (i + 1) (n - (i + 1)) := by
  rw [show n - i = (n - (i + 1)) + 1 from by omega, firstBad, hf]; rfl
theorem firstBad_bad {f : Nat → Bool} {i n : Nat} (h : i < n) (hf : f i = false) : firstBad f i (n - i) = some i := by
  rw [show n - i = (n - (i + 1)) + 1 from by omega, firstBad, hf]; rfl
theorem firstBad_end {f : Nat → Bool} {i n : Nat} (h : ¬ i < n) : firstBad f i (n - i) = none := by
  rw [show n - i = 0 from by omega]; rfl

/-- How deep: the kids of one part, then of the parts from the last to the first. -/
def dep1 (D : Nat → Int) (kd : Nat → Int) (i : Nat) : Nat → Nat → Int
  | 0 => D
  | j + 1 => fun k => if (k : Int) = kd j then dep1 D kd i j i + 1 else dep1 D kd i j k
def depD (pd : Nat → PD) (np : Nat) : Nat → Nat → Int
  | 0 => fun _ => 0
  | s + 1 => dep1 (depD pd np s) (pd (np - 1 - s)).kd (np - 1 - s) (pd (np - 1 - s)).nk
theorem dep1_at {D kd : Nat → Int} {i : Nat} : ∀ j, (∀ q, q < j → kd q < i) → dep1 D kd i j i = D i
  | 0, _ => rfl
  | j + 1, h => by
    simp only [dep1]
    rw [if_neg (by have := h j (by omega); omega)]
    exact dep1_at j fun q hq => h q (by omega)
theorem dep1_le {D kd : Nat → Int} {i : Nat} {s : Int} (hD : ∀ k, 0 ≤ D k ∧ D k ≤ s) : ∀ j, (∀ q, q < j → kd q < i) → ∀ k, 0 ≤ dep1 D kd i j k ∧ dep1 D kd i j k ≤ s + 1
  | 0, _, k => by have := hD k; simp only [dep1]; omega
  | j + 1, h, k => by
    have h' : ∀ q, q < j → kd q < i := fun q hq => h q (by omega)
    simp only [dep1]
    by_cases e : (k : Int) = kd j
    · rw [if_pos e, dep1_at j h']; have := hD i; omega
    · rw [if_neg e]; exact dep1_le hD j h' k
theorem depD_le {pd : Nat → PD} {np : Nat} (hks : ∀ i, i < np → ∀ j, j < (pd i).nk → (pd i).kd j < i) : ∀ s, s ≤ np → ∀ k, 0 ≤ depD pd np s k ∧ depD pd np s k ≤ s
  | 0, _, _ => by simp [depD]
  | s + 1, h, k => by
    have := dep1_le (depD_le hks s (by omega)) (pd (np - 1 - s)).nk (hks (np - 1 - s) (by omega)) k
    simp only [depD]; omega

def after (c : Int) (o : Option Nat) (r : Int × Int) : Int × Int := match o with | some i => (c, i) | none => r
/-- What the model says of a tree. -/
def specT (pd : Nat → PD) (np : Nat) : Int × Int :=
  bif decide (0 < np) && (decide (np ≤ 3000) && ((pd (np - 1)).kind == 1)) then
    after 2 (firstBad (fun i => nodeP pd (pd i) i) 0 np) (after 3 (firstBad (fun i => !(sizesN pd np i == 0)) 0 np)
      (bif sizesN pd np (np - 1) == np then after 4 (firstBad (fun i => decide (depD pd np np i ≤ 100)) 0 np) (0, 0) else (3, (np : Int) - 1)))
  else (1, 0)
theorem nodeP_kids {pd : Nat → PD} {d : PD} {i : Nat} (h : nodeP pd d i = true) : ∀ j, j < d.nk → 0 ≤ d.kd j ∧ d.kd j < i := by
  have hk : kidsIn d i = true := by
    unfold nodeP at h
    simp only [Bool.and_eq_true] at h
    exact h.2.2.2.2.2.2.1
  have go : ∀ n s, allB (fun j => decide (0 ≤ d.kd j) && decide (d.kd j < (i : Int))) s n = true → ∀ j, s ≤ j → j < s + n → 0 ≤ d.kd j ∧ d.kd j < i := by
    intro n
    induction n with
    | zero => intro s _ j h1 h2; omega
    | succ n ih =>
      intro s hs j h1 h2
      have hs' : ((decide (0 ≤ d.kd s) && decide (d.kd s < (i : Int))) && allB (fun j => decide (0 ≤ d.kd j) && decide (d.kd j < (i : Int))) (s + 1) n) = true := hs
      simp only [Bool.and_eq_true, decide_eq_true_eq] at hs'
      by_cases e : j = s
      · subst e; exact hs'.1
      · exact ih (s + 1) hs'.2 j (by omega) (by omega)
  intro j hj
  exact go d.nk 0 hk j (Nat.zero_le _) (by omega)
end Go.Proofs.Ytnokgdgikdgaeaa

namespace Go.Proofs.Ytnokgdgikdgaeaa
open Go.RowKit
attribute [local go_sem] run_store_float

set_option maxRecDepth 100000 in
set_option maxHeartbeats 2000000 in
theorem specTree_bad (t : TM) (w : World) (hn : t.np ≤ 1048576) (ht : t.At w) (hb : (decide (0 < t.np) && (decide (t.np ≤ 3000) && (((pdOf t.pm) (t.np - 1)).kind == 1))) = false) :
    Calls Try.prog 5 #[.agg #[.slice t.pa t.np t.pc]] w fun e w' => e = .returned (.agg #[.int .i64 1, .int .i64 0]) ∧ Onw w w' := by
  obtain ⟨np, pm, pa, pc⟩ := t
  simp only at *
  by_cases h0 : np = 0
  · subst h0
    go_enter Try.func5, Try.ntmps5
    go_wp2_with fail
    refine bodyPost_ret (v := .agg #[.int .i64 1, .int .i64 0]) (by simp [results, Try.results5, go_sem]) rfl ?_
    exact ⟨rfl, (Onw.alloc _ _).trans (Onw.alloc _ _)⟩
  · by_cases h1 : np ≤ 3000
    · have hk : ¬ (pm (np - 1)).kind = 1 := by
        intro e
        rw [decide_eq_true (show 0 < np by omega), decide_eq_true h1, show (pdOf pm (np - 1)).kind = 1 from e] at hb
        simp at hb
      obtain ⟨b, off, hpa, hc⟩ := ht.1 (by show 0 < np; omega)
      simp only at hpa
      subst hpa
      have p0 := (hc (np - 1) (by show _ < np; omega)).c0
      simp only at p0
      obtain ⟨l, hl⟩ : ∃ l, np - 1 = l := ⟨_, rfl⟩
      rw [hl] at p0 hk
      obtain rfl : np = l + 1 := by omega
      clear hl hb hc ht
      have zb := cell_lt p0
      have n0 : ((l : Int) + 1 == 0) = false := beq_false_of_ne (by omega)
      have n1 : decide (3000 < (l : Int) + 1) = false := decide_eq_false (by omega)
      have k1 : ((pm l).kind != 1) = true := bne_iff_ne.mpr hk
      clear hk
      go_enter Try.func5, Try.ntmps5
      go_wp2_with fail
      refine bodyPost_ret (v := .agg #[.int .i64 1, .int .i64 0]) (by simp [results, Try.results5, go_sem]) rfl ?_
      exact ⟨rfl, (Onw.alloc _ _).trans (Onw.alloc _ _)⟩
    · go_enter Try.func5, Try.ntmps5
      go_wp2_with fail
      refine bodyPost_ret (v := .agg #[.int .i64 1, .int .i64 0]) (by simp [results, Try.results5, go_sem]) rfl ?_
      exact ⟨rfl, (Onw.alloc _ _).trans (Onw.alloc _ _)⟩
end Go.Proofs.Ytnokgdgikdgaeaa

namespace Go.Proofs.Ytnokgdgikdgaeaa
open Go.RowKit
attribute [local go_sem] run_store_float

theorem ret_wrong {p : Int × Int} {c i : Int} (h : p = (c, i)) : Ending.returned (.agg #[.int .i64 c, .int .i64 i]) = Ending.returned (.agg #[.int .i64 p.1, .int .i64 p.2]) := by rw [h]

set_option maxRecDepth 100000 in
set_option maxHeartbeats 4000000 in
theorem specTree_good (l : Nat) (pm : Nat → PM) (pa : Option Addr) (pc : Nat) (w : World) (hl : l + 1 ≤ 3000) (hk : (pm l).kind = 1) (hs : ∀ i, i < l + 1 → (pm i).Slight) (ht : TM.At w ⟨l + 1, pm, pa, pc⟩) :
    Calls Try.prog 5 #[.agg #[.slice pa (l + 1 : Nat) pc]] w fun e w' => e = .returned (.agg #[.int .i64 (specT (pdOf pm) (l + 1)).1, .int .i64 (specT (pdOf pm) (l + 1)).2]) ∧ Onw w w' := by
  have fin : Hid (specT (pdOf pm) (l + 1) = after 2 (firstBad (fun i => nodeP (pdOf pm) (pdOf pm i) i) 0 (l + 1)) (after 3 (firstBad (fun i => !(sizesN (pdOf pm) (l + 1) i == 0)) 0 (l + 1))
      (bif sizesN (pdOf pm) (l + 1) l == ((l + 1 : Nat) : Int) then after 4 (firstBad (fun i => decide (depD (pdOf pm) (l + 1) (l + 1) i ≤ 100)) 0 (l + 1)) (0, 0) else (3, ((l + 1 : Nat) : Int) - 1)))) := by
    show _ = _
    unfold specT
    rw [decide_eq_true (show 0 < l + 1 by omega), decide_eq_true hl, show (pdOf pm (l + 1 - 1)).kind = 1 from hk]; rfl
  have HS : Hid _ := hs
  have HT : Hid _ := ht
  obtain ⟨b, off, hpa, hc⟩ := ht.1 (by show 0 < l + 1; omega)
  simp only at hpa
  subst hpa
  have p0 := (hc l (by show l < l + 1; omega)).c0
  simp only at p0
  rw [hk] at p0
  clear hc ht hs hk
  have zb := cell_lt p0
  have n0 : ((l : Int) + 1 == 0) = false := beq_false_of_ne (by omega)
  have n1 : decide (3000 < (l : Int) + 1) = false := decide_eq_false (by omega)
  go_enter Try.func5, Try.ntmps5
  go_wp2_with fail
  clear p0
  go_loopw [39] (fun x wr => ∃ i : Nat, i ≤ l + 1 ∧ x = .int .i64 i ∧ Onw w wr ∧ Blk wr w.heap.size 31 #[.slice (some ⟨b, off, none⟩) (l + 1) pc] ∧ Blk wr (w.heap.size + 1) 27 #[.int .i64 0, .int .i64 0] ∧ (∀ k, k < i → nodeP (pdOf pm) (pdOf pm k) k = true) ∧ firstBad (fun i => nodeP (pdOf pm) (pdOf pm i) i) 0 (l + 1) = firstBad (fun i => nodeP (pdOf pm) (pdOf pm i) i) i (l + 1 - i)) (fun x _ => l + 1 - (intOf x).toNat)
  case atStart =>
    refine ⟨0, Nat.zero_le _, rfl, (Onw.alloc _ _).trans (Onw.alloc _ _), (Blk.new _ _ _).onw (Onw.alloc _ _), ?_, fun k hk => absurd hk (Nat.not_lt_zero _), rfl⟩
    have := Blk.new (w.alloc (Obj.cells #[.slice (some ⟨b, off, none⟩) (l + 1) pc] 31)) 27 #[.int .i64 0, .int .i64 0]
    simpa only [World.size_alloc] using this
  case round =>
    obtain ⟨i, hi, rfl, ob, B1, B2, hok, hf⟩ := hrel
    have HF : Hid _ := hf
    have HO : Hid _ := hok
    clear hf hok
    by_cases hlt : i < l + 1
    · have x0 : wr.cell? ⟨w.heap.size, 0, none⟩ = some (.slice (some ⟨b, off, none⟩) (l + 1 : Nat) pc) := by rw [B1.cell]; rfl
      go_wp2_with fail
      refine (l6nodeok_any ⟨l + 1, pm, some ⟨b, off, none⟩, pc⟩ i _ (by dsimp only; omega) hlt (HS.out i hlt) (TM.At.onw ob HT.out)).mono ?_
      rintro e w1 ⟨rfl, O1⟩
      replace B1 := B1.onw O1
      replace B2 := B2.onw O1
      replace ob := ob.trans O1
      clear O1 x0
      obtain ⟨q, hq⟩ : ∃ q, nodeP (pdOf pm) (pm i).toPD i = q := ⟨_, rfl⟩
      dsimp only
      rw [hq]
      have HQ : Hid _ := hq
      clear hq
      have f2 := B2.free
      have y0 : w1.cell? ⟨w.heap.size + 1, 0, none⟩ = some (.int .i64 0) := by rw [B2.cell]; rfl
      have y1 : w1.cell? ⟨w.heap.size + 1, 1, none⟩ = some (.int .i64 0) := by rw [B2.cell]; rfl
      cases q
      · go_wp2_with fail
        exact bodyPost_ret (v := .agg #[.int .i64 2, .int .i64 i]) (by simp [results, Try.results5, go_sem, y0, y1]) rfl ⟨ret_wrong (by rw [fin.out, HF.out, firstBad_bad (f := fun i => nodeP (pdOf pm) (pdOf pm i) i) hlt HQ.out]; rfl), below_set (below_set ob (by omega) _) (by omega) _⟩
      · go_wp2_with fail
        go_roundw
        case rel =>
          refine ⟨i + 1, by omega, by go_num, ob, B1, B2, fun k hk => ?_, by rw [HF.out, firstBad_ok (f := fun i => nodeP (pdOf pm) (pdOf pm i) i) hlt HQ.out]⟩
          by_cases e : k = i
          · subst e; exact HQ.out
          · exact HO.out k (by omega)
        case measure => simp [intOf] <;> omega
    · have hE : Hid (firstBad (fun i => nodeP (pdOf pm) (pdOf pm i) i) 0 (l + 1) = none) := by show _ = _; rw [HF.out, firstBad_end hlt]
      have HK : Hid (∀ i, i < l + 1 → ∀ j, j < (pm i).nk → 0 ≤ (pm i).kd j ∧ (pm i).kd j < i) := fun i' hi' => nodeP_kids (HO.out i' (by omega))
      clear HF HO
      obtain rfl : i = l + 1 := by omega
      clear hlt hi
      have x0 : wr.cell? ⟨w.heap.size, 0, none⟩ = some (.slice (some ⟨b, off, none⟩) (l + 1 : Nat) pc) := by rw [B1.cell]; rfl
      go_wp2_with fail
      refine (l6sizes_any ⟨l + 1, pm, some ⟨b, off, none⟩, pc⟩ _ (by dsimp only; omega) (by dsimp only; omega) (fun i' hi' => (HS.out i' hi').1) HK.out (TM.At.onw ob HT.out)).mono ?_
      rintro e w1 ⟨sa, rfl, O1, hI, hF⟩
      replace B1 := B1.onw O1
      replace B2 := B2.onw O1
      replace ob := ob.trans O1
      clear O1 x0
      dsimp only at hI
      obtain ⟨g, o, hsa, hz⟩ := hI (by omega)
      subst hsa
      have HZ : Hid _ := hz
      have HF : Hid _ := hF
      clear hz hF hI
      obtain ⟨w0, hw0⟩ : ∃ x, x = w1 := ⟨_, rfl⟩
      subst hw0
      obtain ⟨wA, hwA⟩ : ∃ x, x = wr := ⟨_, rfl⟩
      subst hwA
      go_wp2_with fail
      go_loopw [53] (fun x wr => ∃ i : Nat, i ≤ l + 1 ∧ x = .int .i64 i ∧ Onw w0 wr ∧ firstBad (fun i => !(sizesN (pdOf pm) (l + 1) i == 0)) 0 (l + 1) = firstBad (fun i => !(sizesN (pdOf pm) (l + 1) i == 0)) i (l + 1 - i)) (fun x _ => l + 1 - (intOf x).toNat)
      case atStart => exact ⟨0, Nat.zero_le _, rfl, Onw.refl _, rfl⟩
      case round =>
        obtain ⟨i, hi, rfl, o2, hf⟩ := hrel
        have HB : Hid _ := hf
        clear hf
        replace B1 := B1.onw o2
        replace B2 := B2.onw o2
        replace ob := ob.trans o2
        have f2 := B2.free
        have y0 : wr.cell? ⟨w.heap.size + 1, 0, none⟩ = some (.int .i64 0) := by rw [B2.cell]; rfl
        have y1 : wr.cell? ⟨w.heap.size + 1, 1, none⟩ = some (.int .i64 0) := by rw [B2.cell]; rfl
        by_cases hlt : i < l + 1
        · have s0 := cell_onw o2 (HZ.out i hlt)
          have zs := cell_lt s0
          obtain ⟨sv, hsv⟩ : ∃ sv, sizesN (pdOf pm) (l + 1) i = sv := ⟨_, rfl⟩
          rw [hsv] at s0
          have HV : Hid _ := hsv
          clear hsv
          by_cases e : sv = 0
          · subst e
            go_wp2_with fail
            exact bodyPost_ret (v := .agg #[.int .i64 3, .int .i64 i]) (by simp [results, Try.results5, go_sem, y0, y1]) rfl ⟨ret_wrong (by rw [fin.out, hE.out, HB.out, firstBad_bad (f := fun i => !(sizesN (pdOf pm) (l + 1) i == 0)) hlt (by rw [HV.out]; rfl)]; rfl), below_set (below_set ob (by omega) _) (by omega) _⟩
          · go_wp2_with fail
            go_roundw
            case rel => exact ⟨i + 1, by omega, by go_num, o2, by rw [HB.out, firstBad_ok (f := fun i => !(sizesN (pdOf pm) (l + 1) i == 0)) hlt (by rw [HV.out, beq_false_of_ne e]; rfl)]⟩
            case measure => simp [intOf] <;> omega
        · have hE3 : Hid (firstBad (fun i => !(sizesN (pdOf pm) (l + 1) i == 0)) 0 (l + 1) = none) := by show _ = _; rw [HB.out, firstBad_end hlt]
          clear HB
          obtain rfl : i = l + 1 := by omega
          clear hlt hi
          have s0 := cell_onw o2 (HZ.out l (by omega))
          have zs := cell_lt s0
          obtain ⟨sv, hsv⟩ : ∃ sv, sizesN (pdOf pm) (l + 1) l = sv := ⟨_, rfl⟩
          rw [hsv] at s0
          have HV : Hid _ := hsv
          clear hsv
          by_cases e : sv = (l : Int) + 1
          · subst e
            have x0 : wr.cell? ⟨w.heap.size, 0, none⟩ = some (.slice (some ⟨b, off, none⟩) (l + 1 : Nat) pc) := by rw [B1.cell]; rfl
            have z0 := cell_lt x0
            have hmk := run_make_ints (l + 1) (by omega)
            simp only [show (((l + 1 : Nat)) : Int) = (l : Int) + 1 from rfl] at hmk
            go_wp2_with fail
            clear hmk s0 y0 y1 f2
            obtain ⟨gd, hgd⟩ : ∃ gd, wr.heap.size = gd := ⟨_, rfl⟩
            have zr := B2.lt
            have Bd := Blk.new wr 3 (madeCells #[.int .i64 0] (l + 1))
            have O2 := Onw.alloc wr (Obj.cells (madeCells #[.int .i64 0] (l + 1)) 3)
            rw [hgd] at z0 zr Bd ⊢
            have G2 : SzAt w _ (some ⟨b, off, none⟩) (l + 1) pc gd _ := ⟨ob.trans O2, B1.onw O2, Bd, z0⟩
            replace B2 := B2.onw O2
            clear x0 Bd
            generalize wr.alloc (Obj.cells (madeCells #[.int .i64 0] (l + 1)) 3) = w2 at *
            have A0 : Arr (madeCells #[.int .i64 0] (l + 1)) (l + 1) (depD (pdOf pm) (l + 1) 0) := ⟨size_madeCells _ _, fun k hk => made_int _ k hk⟩
            generalize madeCells #[.int .i64 0] (l + 1) = c0 at G2 A0
            go_loopw [8] (fun x wr2 => ∃ (s : Nat) (c : Array Value), s ≤ l + 1 ∧ x = .int .i64 ((l : Int) - s) ∧ SzAt w wr2 (some ⟨b, off, none⟩) (l + 1) pc gd c ∧ Blk wr2 (w.heap.size + 1) 27 #[.int .i64 0, .int .i64 0] ∧ Arr c (l + 1) (depD (pdOf pm) (l + 1) s)) (fun x _ => (intOf x + 1).toNat)
            case atStart => exact ⟨0, c0, Nat.zero_le _, by simp, G2, B2, A0⟩
            case round =>
              clear G2 B2 A0 O2
              obtain ⟨s, c, hs, hx, G, B2, A⟩ := hrel
              have HG : Hid _ := G
              have HA : Hid _ := A
              have HB2 : Hid _ := B2
              clear G A B2
              by_cases hsl : s < l + 1
              · obtain ⟨i, hi⟩ : ∃ i, l = i + s := ⟨l - s, by omega⟩
                rw [show (l : Int) - (s : Int) = (i : Int) by omega] at hx
                subst hx
                have hil : i < l + 1 := by omega
                have hd : Hid (depD (pdOf pm) (l + 1) (s + 1) = dep1 (depD (pdOf pm) (l + 1) s) (pm i).kd i (pm i).nk) := by
                  show _ = _
                  rw [depD, show l + 1 - 1 - s = i by omega]; rfl
                have HI : Hid _ := hi
                clear hi
                obtain ⟨b', off', hpa, hcc⟩ := (PartsAt.onw HG.out.onw HT.out).1 (by omega)
                cases hpa
                have p9 := (hcc i hil).c9
                clear hcc
                have hI := (HT.out.2 i hil).2
                have hkn := (HS.out i hil).1
                have zb' := cell_lt p9
                have x0 : wr.cell? ⟨w.heap.size, 0, none⟩ = some (.slice (some ⟨b, off, none⟩) (l + 1 : Nat) pc) := by rw [HG.out.t0.cell]; rfl
                obtain ⟨KA, hKA⟩ : ∃ KA, (pm i).ka = KA := ⟨_, rfl⟩
                rw [hKA] at p9 hI
                clear hKA
                have ii : (i : Int) < (l : Int) + 1 := by omega
                go_wp2_with fail
                clear p9 x0
                obtain ⟨wB, hwB⟩ : ∃ x, x = wr := ⟨_, rfl⟩
                subst hwB
                go_loopw [95] (fun x wr2 => ∃ (j : Nat) (c : Array Value), j ≤ (pm i).nk ∧ x = .int .i64 j ∧ SzAt w wr2 (some ⟨b, off, none⟩) (l + 1) pc gd c ∧ Blk wr2 (w.heap.size + 1) 27 #[.int .i64 0, .int .i64 0] ∧ Arr c (l + 1) (dep1 (depD (pdOf pm) (l + 1) s) (pm i).kd i j)) (fun x _ => (pm i).nk - (intOf x).toNat)
                case atStart => exact ⟨0, c, Nat.zero_le _, rfl, HG.out, HB2.out, HA.out⟩
                case round =>
                  obtain ⟨j, c', hj, rfl, G, B2, A⟩ := hrel
                  have HG3 : Hid _ := G
                  have HA3 : Hid _ := A
                  have HB3 : Hid _ := B2
                  clear G A B2
                  by_cases hjt : j < (pm i).nk
                  · obtain ⟨kb, ko, hka, hcc⟩ := hI.onw HG3.out.onw (by omega)
                    subst hka
                    have k0 := hcc j hjt
                    clear hcc
                    obtain ⟨j0, j1⟩ := HK.out i hil j hjt
                    obtain ⟨k, hk⟩ := Int.eq_ofNat_of_zero_le j0
                    have HKD : Hid _ := hk
                    rw [hk] at k0 j1
                    clear hk j0
                    have zk := cell_lt k0
                    obtain ⟨v, hv⟩ : ∃ v, dep1 (depD (pdOf pm) (l + 1) s) (pm i).kd i j i = v := ⟨_, rfl⟩
                    have hb := dep1_le (depD_le (pd := pdOf pm) (np := l + 1) (fun i hi j hj => (HK.out i hi j hj).2) s hs) j (fun q hq => (HK.out i hil q (by omega)).2) i
                    rw [hv] at hb
                    obtain ⟨hb0, hb1⟩ := hb
                    have s0 : wr.cell? ⟨gd, i, none⟩ = some (.int .i64 v) := by
                      rw [HG3.out.b1.cell, ← hv]; exact HA3.out.2 i hil
                    have HV2 : Hid _ := hv
                    clear hv
                    have kl : (k : Int) < (l : Int) + 1 := by omega
                    have f1 := HG3.out.b1.free
                    obtain ⟨v0, gx⟩ := HG3.out.b1.some (j := k) (by rw [HA3.out.1]; omega)
                    go_wp2_with fail
                    go_roundw
                    case rel =>
                      refine ⟨j + 1, _, by omega, by go_num, HG3.out.set k _, Blk.kept (kept_setCell _ gd k _) (by omega) HB3.out, Arr.set HA3.out k _ fun m _ => ?_⟩
                      simp only [dep1]
                      rw [HKD.out, HV2.out]
                      by_cases e : m = k
                      · rw [if_pos e, if_pos (by omega)]
                      · rw [if_neg e, if_neg (by omega)]
                    case measure => simp [intOf] <;> omega
                  · obtain rfl : j = (pm i).nk := by omega
                    go_wp2_with fail
                    go_roundw
                    case rel => exact ⟨s + 1, c', by omega, by have := HI.out; go_num, HG3.out, HB3.out, by rw [hd.out]; exact HA3.out⟩
                    case measure => simp [intOf] <;> omega
              · obtain rfl : s = l + 1 := by omega
                subst hx
                go_wp2_with fail
                have hh : Hid (specT (pdOf pm) (l + 1) = after 4 (firstBad (fun i => decide (depD (pdOf pm) (l + 1) (l + 1) i ≤ 100)) 0 (l + 1)) (0, 0)) := by
                  show _ = _
                  rw [fin.out, hE.out, hE3.out, HV.out, beq_iff_eq.mpr (show (l : Int) + 1 = ((l + 1 : Nat) : Int) from rfl)]; rfl
                obtain ⟨wB, hwB⟩ : ∃ x, x = wr := ⟨_, rfl⟩
                subst hwB
                go_loopw [110] (fun x wr2 => ∃ i : Nat, i ≤ l + 1 ∧ x = .int .i64 i ∧ Onw wB wr2 ∧ firstBad (fun i => decide (depD (pdOf pm) (l + 1) (l + 1) i ≤ 100)) 0 (l + 1) = firstBad (fun i => decide (depD (pdOf pm) (l + 1) (l + 1) i ≤ 100)) i (l + 1 - i)) (fun x _ => l + 1 - (intOf x).toNat)
                case atStart => exact ⟨0, Nat.zero_le _, rfl, Onw.refl _, rfl⟩
                case round =>
                  obtain ⟨i, hi, rfl, o4, hf⟩ := hrel
                  have HB : Hid _ := hf
                  clear hf
                  have B2 := Blk.onw o4 HB2.out
                  have ob4 := HG.out.onw.trans o4
                  have f2 := B2.free
                  have y0 : wr.cell? ⟨w.heap.size + 1, 0, none⟩ = some (.int .i64 0) := by rw [B2.cell]; rfl
                  have y1 : wr.cell? ⟨w.heap.size + 1, 1, none⟩ = some (.int .i64 0) := by rw [B2.cell]; rfl
                  by_cases hlt : i < l + 1
                  · obtain ⟨v, hv⟩ : ∃ v, depD (pdOf pm) (l + 1) (l + 1) i = v := ⟨_, rfl⟩
                    have s0 : wr.cell? ⟨gd, i, none⟩ = some (.int .i64 v) := by
                      rw [(Blk.onw o4 HG.out.b1).cell, ← hv]; exact HA.out.2 i hlt
                    have zs := cell_lt s0
                    have HV2 : Hid _ := hv
                    clear hv
                    by_cases e : v ≤ 100
                    · go_wp2_with fail
                      go_roundw
                      case rel => exact ⟨i + 1, by omega, by go_num, o4, by rw [HB.out, firstBad_ok (f := (fun i => decide (depD (pdOf pm) (l + 1) (l + 1) i ≤ 100))) hlt (by rw [HV2.out]; exact decide_eq_true (by omega))]⟩
                      case measure => simp [intOf] <;> omega
                    · go_wp2_with fail
                      exact bodyPost_ret (v := .agg #[.int .i64 4, .int .i64 i]) (by simp [results, Try.results5, go_sem, y0, y1]) rfl ⟨ret_wrong (by rw [hh.out, HB.out, firstBad_bad (f := (fun i => decide (depD (pdOf pm) (l + 1) (l + 1) i ≤ 100))) hlt (by rw [HV2.out]; exact decide_eq_false (by omega))]; rfl), below_set (below_set ob4 (by omega) _) (by omega) _⟩
                  · obtain rfl : i = l + 1 := by omega
                    go_wp2_with fail
                    exact bodyPost_ret (v := .agg #[.int .i64 0, .int .i64 0]) (by simp [results, Try.results5, go_sem, y0, y1]) rfl ⟨ret_wrong (by rw [hh.out, HB.out, firstBad_end hlt]; rfl), by first | exact below_set (below_set ob4 (by omega) _) (by omega) _ | exact ob4⟩
          · go_wp2_with fail
            exact bodyPost_ret (v := .agg #[.int .i64 3, .int .i64 l]) (by simp [results, Try.results5, go_sem, y0, y1]) rfl ⟨ret_wrong (by rw [fin.out, hE.out, hE3.out, HV.out, beq_false_of_ne (show sv ≠ ((l + 1 : Nat) : Int) by omega), show (l : Int) = ((l + 1 : Nat) : Int) - 1 by omega]; rfl), below_set (below_set ob (by omega) _) (by omega) _⟩
end Go.Proofs.Ytnokgdgikdgaeaa

namespace Go.Proofs.Ytnokgdgikdgaeaa
open Go.RowKit
attribute [local go_sem] run_store_float

/-- Does part i fit its row, as the program asks it? -/
def rowI (pm : Nat → PM) (pk : Nat → Option Addr) (i : Nat) : Bool :=
  placeP (pm i).toPD && (stB (pm i).toPD (kidX (pm i).toPD (pxOf pm pk) i) || (exB (pm i).toPD (kidX (pm i).toPD (pxOf pm pk) i) || enB (pm i).toPD (kidX (pm i).toPD (pxOf pm pk) i)))
def optI : Option Nat → Int
  | some n => n
  | none => -1

set_option maxRecDepth 100000 in
set_option maxHeartbeats 4000000 in
theorem firstOffRow_any (np lo ab : Nat) (pm : Nat → PM) (pk : Nat → Option Addr) (pa : Option Addr) (w : World) (hn : np ≤ 1048576) (hs : ∀ i, i < np → (pm i).Slight) (ha : PartsAt w pa np pm) (hP : PiecesAt w lo ab np pm pk) :
    Calls Try.prog 16 #[.slice (some ⟨ab, 0, none⟩) np np] w fun e w' => e = .returned (.int .i64 (optI (firstBad (rowI pm pk) 0 np))) ∧ Onw w w' := by
  have HA : Hid _ := ha
  have HP : Hid _ := hP
  have HS : Hid _ := hs
  clear ha hP hs
  go_enter Try.func16, Try.ntmps16
  go_wp2_with fail
  go_loopw [7] (fun i wr => ∃ k : Nat, k ≤ np ∧ i = .int .i64 k ∧ Onw w wr ∧ firstBad (rowI pm pk) 0 np = firstBad (rowI pm pk) k (np - k)) (fun i _ => np - (intOf i).toNat)
  case atStart => exact ⟨0, Nat.zero_le _, rfl, Onw.refl _, rfl⟩
  case round =>
    obtain ⟨k, hk, rfl, ob, hq⟩ := hrel
    have HQ : Hid _ := hq
    clear hq
    by_cases hlt : k < np
    · obtain ⟨h1, hV, _⟩ := PiecesAt.onw ob HP.out k hlt
      have c0 : wr.cell? ⟨ab, k, none⟩ = some (.iface (ptT (pm k).toPD) (.agg #[.int .i64 (k : Nat), .int .i64 (pm k).kind, .int .i64 (pm k).frm, .int .i64 (pm k).tto, .int .i64 (pm k).line, .int .i64 (pm k).op, .int .i64 (pm k).num, .float .f64 (pm k).flt, .string (pm k).text, .slice (pm k).na (pm k).nn (pm k).nc, .slice (pm k).ka (pm k).nk (pm k).kc, .slice (pk k) (knP (pm k).toPD) (knP (pm k).toPD)])) := h1
      have hz : Hid (∀ i, i < (pm k).nn → ((pm k).nm i).size ≤ 1048576) := (HS.out k hlt).2.2.2
      have htx : Hid ((pm k).text.size ≤ 1048576) := (HS.out k hlt).2.2.1
      have hM : Hid (StrsAt wr (pm k).na (pm k).nn (pm k).nm) := ((PartsAt.onw ob HA.out).2 k hlt).1
      have HV : Hid _ := hV
      have zb := cell_lt c0
      clear h1 hV
      have bad : Hid (rowI pm pk k = false → firstBad (rowI pm pk) 0 np = some k) := fun h => by rw [HQ.out, firstBad_bad hlt h]
      have good : Hid (rowI pm pk k = true → firstBad (rowI pm pk) 0 np = firstBad (rowI pm pk) (k + 1) (np - (k + 1))) := fun h => by rw [HQ.out, firstBad_ok hlt h]
      have E : Hid (rowI pm pk k = (placeP (pm k).toPD && (stB (pm k).toPD (kidX (pm k).toPD (pxOf pm pk) k) || (exB (pm k).toPD (kidX (pm k).toPD (pxOf pm pk) k) || enB (pm k).toPD (kidX (pm k).toPD (pxOf pm pk) k))))) := rfl
      go_wp2_with fail
      refine (placeFits_any (pm k) k (pk k) _ _ _).mono ?_
      rintro e w1 ⟨rfl, b1⟩
      cases x1 : placeP (pm k).toPD
      · go_wp2_with fail
        go_ret
        exact ⟨ret_int (by rw [bad.out (by rw [E.out, x1]; rfl)]; rfl), ob.trans b1⟩
      · go_wp2_with fail
        refine (statementFits_any (pm k) k (pk k) (kidX (pm k).toPD (pxOf pm pk) k) _ (ValsAt.onw b1 HV.out) hz.out htx.out (StrsAt.onw b1 hM.out)).mono ?_
        rintro e w2 ⟨rfl, b2⟩
        replace b2 := b1.trans b2
        cases x2 : stB (pm k).toPD (kidX (pm k).toPD (pxOf pm pk) k)
        · go_wp2_with fail
          refine (expressionFits_any (pm k) k (pk k) (kidX (pm k).toPD (pxOf pm pk) k) _ (ValsAt.onw b2 HV.out) hz.out htx.out (StrsAt.onw b2 hM.out)).mono ?_
          rintro e w3 ⟨rfl, b3⟩
          replace b3 := b2.trans b3
          cases x3 : exB (pm k).toPD (kidX (pm k).toPD (pxOf pm pk) k)
          · go_wp2_with fail
            refine (entryFits_any (pm k) k (pk k) (kidX (pm k).toPD (pxOf pm pk) k) _ (ValsAt.onw b3 HV.out) hz.out htx.out (StrsAt.onw b3 hM.out)).mono ?_
            rintro e w4 ⟨rfl, b4⟩
            replace b4 := b3.trans b4
            cases x4 : enB (pm k).toPD (kidX (pm k).toPD (pxOf pm pk) k)
            · go_wp2_with fail
              go_ret
              exact ⟨ret_int (by rw [bad.out (by rw [E.out, x1, x2, x3, x4]; rfl)]; rfl), ob.trans b4⟩
            · go_wp2_with fail
              go_roundw
              case rel => exact ⟨k + 1, by omega, by go_num, ob.trans b4, good.out (by rw [E.out, x1, x2, x3, x4]; rfl)⟩
              case measure => simp [intOf]; omega
          · go_wp2_with fail
            go_roundw
            case rel => exact ⟨k + 1, by omega, by go_num, ob.trans b3, good.out (by rw [E.out, x1, x2, x3]; rfl)⟩
            case measure => simp [intOf]; omega
        · go_wp2_with fail
          go_roundw
          case rel => exact ⟨k + 1, by omega, by go_num, ob.trans b2, good.out (by rw [E.out, x1, x2]; rfl)⟩
          case measure => simp [intOf]; omega
    · go_wp2_with fail
      go_ret
      exact ⟨ret_int (by rw [HQ.out, firstBad_end hlt]; rfl), ob⟩
end Go.Proofs.Ytnokgdgikdgaeaa
