import Derived.Test.YtjebijnndfkinaaGreatP21
namespace Go.Proofs.YtjebijnndfkinaaGreat
open Go.RowKit

def base (d : FD) (v : Nat) : Int := if (v : Int) < d.params then 1 else 0
def placeP (d : FD) (up below : Nat) : Nat := (placeI (d.nd up).kd below 0 (d.nd up).nk).toNat
/-- What a node brings into scope at one of its kids. -/
def contr (d : FD) (up below v : Nat) : Int := if (d.nd up).kind = 1 then letS d.nv d.nd up (placeP d up below) v else if headK (d.nd up).kind = true ∧ placeP d up below + 1 = (d.nd up).nk then cntV d.nv (d.nd up).rf (d.nd up).nr v else 0
def HN (d : FD) : Nat → Nat → Nat → Int
  | 0, _, v => base d v
  | f + 1, n, v => if parE d.nd d.nn n < 0 then base d v else HN d f (parE d.nd d.nn n).toNat v + contr d (parE d.nd d.nn n).toNat n v
def HH (d : FD) (n v : Nat) : Int := HN d d.nn n v
def lup (d : FD) (up below : Nat) : Int := if loopK (d.nd up).kind = true ∧ placeP d up below + 1 = (d.nd up).nk then 1 else 0
def LN (d : FD) : Nat → Nat → Int
  | 0, _ => 0
  | f + 1, n => if parE d.nd d.nn n < 0 then 0 else LN d f (parE d.nd d.nn n).toNat + lup d (parE d.nd d.nn n).toNat n
def LL (d : FD) (n : Nat) : Int := LN d d.nn n

theorem Tree4.parOk {d : FD} (t : Tree4 d) : ParOk (parE d.nd d.nn) d.nn := parE_ok d.nd d.nn fun i hi j hj => t.ok.kids i hi j hj

theorem Tree4.HN_fuel {d : FD} (t : Tree4 d) (v : Nat) : ∀ f n, n < d.nn → d.nn ≤ n + f → HN d f n v = HN d (f + 1) n v
  | 0, n, h1, h2 => by omega
  | f + 1, n, h1, h2 => by
    rw [HN, HN]
    by_cases e : parE d.nd d.nn n < 0
    · rw [if_pos e, if_pos e]
    · rw [if_neg e, if_neg e]
      have a := t.parOk.lt n h1
      have b := t.parOk.gt n h1 (by omega)
      rw [t.HN_fuel v f (parE d.nd d.nn n).toNat (by omega) (by omega)]
theorem Tree4.LN_fuel {d : FD} (t : Tree4 d) : ∀ f n, n < d.nn → d.nn ≤ n + f → LN d f n = LN d (f + 1) n
  | 0, n, h1, h2 => by omega
  | f + 1, n, h1, h2 => by
    rw [LN, LN]
    by_cases e : parE d.nd d.nn n < 0
    · rw [if_pos e, if_pos e]
    · rw [if_neg e, if_neg e]
      have a := t.parOk.lt n h1
      have b := t.parOk.gt n h1 (by omega)
      rw [t.LN_fuel f (parE d.nd d.nn n).toNat (by omega) (by omega)]

theorem Tree4.placeP {d : FD} (t : Tree4 d) {q j : Nat} (hq : q < d.nn) (hj : j < (d.nd q).nk) : YtjebijnndfkinaaGreat.placeP d q ((d.nd q).kd j).toNat = j := by
  have h := (t.kid hq hj).2
  have h0 := (t.ok.kids q hq j hj).1
  unfold YtjebijnndfkinaaGreat.placeP
  rw [show (((d.nd q).kd j).toNat : Int) = (d.nd q).kd j by omega, h]
  rfl
theorem Tree4.eH {d : FD} (t : Tree4 d) {q j : Nat} (hq : q < d.nn) (hj : j < (d.nd q).nk) (v : Nat) : HH d ((d.nd q).kd j).toNat v = HH d q v + contr d q ((d.nd q).kd j).toNat v := by
  have h1 := (t.kid hq hj).1
  obtain ⟨h0, h2⟩ := t.ok.kids q hq j hj
  unfold HH
  obtain ⟨m, hm⟩ : ∃ m, d.nn = m + 1 := ⟨d.nn - 1, by omega⟩
  have e := t.HN_fuel v m q hq (by omega)
  rw [hm] at h1 ⊢
  rw [HN]
  rw [← hm] at h1 ⊢
  rw [h1, if_neg (by omega), show ((q : Int)).toNat = q from rfl, e, ← hm]
theorem Tree4.eL {d : FD} (t : Tree4 d) {q j : Nat} (hq : q < d.nn) (hj : j < (d.nd q).nk) : LL d ((d.nd q).kd j).toNat = LL d q + lup d q ((d.nd q).kd j).toNat := by
  have h1 := (t.kid hq hj).1
  obtain ⟨h0, h2⟩ := t.ok.kids q hq j hj
  unfold LL
  obtain ⟨m, hm⟩ : ∃ m, d.nn = m + 1 := ⟨d.nn - 1, by omega⟩
  have e := t.LN_fuel m q hq (by omega)
  rw [hm] at h1 ⊢
  rw [LN]
  rw [← hm] at h1 ⊢
  rw [h1, if_neg (by omega), show ((q : Int)).toNat = q from rfl, e, ← hm]

theorem placeP_le (d : FD) (up below : Nat) : YtjebijnndfkinaaGreat.placeP d up below ≤ (d.nd up).nk := by
  have := placeI_lt (d.nd up).kd below (d.nd up).nk 0
  unfold YtjebijnndfkinaaGreat.placeP; omega
theorem contr_le {d : FD} (ok : Ok3 d) (hk : ∀ n, n < d.nn → (d.nd n).nk ≤ 200) (hr : ∀ n, n < d.nn → (d.nd n).nr ≤ 1048576) {up : Nat} (hu : up < d.nn) (below v : Nat) : 0 ≤ contr d up below v ∧ contr d up below v ≤ 209715200 := by
  unfold contr
  have hp := placeP_le d up below
  have h200 := hk up hu
  split
  · have := letS_le d.nv d.nd up (fun j hj => hr _ (by have := ok.kids up hu j hj; omega)) (YtjebijnndfkinaaGreat.placeP d up below) hp v
    omega
  · split
    · have := cntV_le d.nv (d.nd up).rf (d.nd up).nr v
      have := hr up hu
      omega
    · omega
theorem HN_le {d : FD} (t : Tree4 d) (hk : ∀ n, n < d.nn → (d.nd n).nk ≤ 200) (hr : ∀ n, n < d.nn → (d.nd n).nr ≤ 1048576) (v : Nat) : ∀ f n, n < d.nn → 0 ≤ HN d f n v ∧ HN d f n v ≤ 1 + f * 209715200
  | 0, n, _ => by unfold HN base; split <;> omega
  | f + 1, n, hn => by
    rw [HN]
    split
    · unfold base; split <;> omega
    · have a := t.parOk.lt n hn
      have h1 := HN_le t hk hr v f (parE d.nd d.nn n).toNat (by omega)
      have h2 := contr_le t.ok hk hr (up := (parE d.nd d.nn n).toNat) (by omega) n v
      omega
theorem LN_le (d : FD) : ∀ f n, 0 ≤ LN d f n ∧ LN d f n ≤ f
  | 0, n => by simp [LN]
  | f + 1, n => by
    rw [LN]
    split
    · omega
    · have := LN_le d f (parE d.nd d.nn n).toNat
      unfold lup; split <;> omega

theorem two_kids {nd : Nat → ND} {n : Nat} (h : shapeB nd n = true) (hk : (nd n).kind = 6 ∨ (nd n).kind = 8 ∨ (nd n).kind = 12) : (nd n).nk = 2 := by
  have hs : statB (nd n).kind = true := by rcases hk with e | e | e <;> rw [e] <;> decide
  have he := (shape_stmt h hs).2.2
  unfold stmtB at he
  rcases hk with e | e | e <;> simp [e] at he <;> omega
theorem four_kids {nd : Nat → ND} {n : Nat} (h : shapeB nd n = true) (hk : (nd n).kind = 7) : (nd n).nk = 4 := by
  have hs : statB (nd n).kind = true := by rw [hk]; decide
  have he := (shape_stmt h hs).2.2
  unfold stmtB at he
  simp [hk] at he; omega
theorem leaf_kids {nd : Nat → ND} {n : Nat} (h : shapeB nd n = true) (hk : (nd n).kind = 26 ∨ (nd n).kind = 36) : (nd n).nk = 0 := by
  have hs : statB (nd n).kind = false := by rcases hk with e | e <;> rw [e] <;> decide
  have he := (shape_expr h hs).2
  unfold exprnB at he
  rcases hk with e | e <;> simp [e] at he <;> omega
theorem shape_nk {nd : Nat → ND} {n : Nat} (h : shapeB nd n = true) : (nd n).nk ≤ 200 := by
  simp only [shapeB, Bool.and_eq_true, decide_eq_true_eq] at h
  exact h.1.1

theorem facts_of {d : FD} {f : Nat} (hh : headB d f = true) (hs : ∀ n, n < d.nn → shapeB d.nd n = true) (h4 : findN (bad4 d) 0 d.nn = none) (hn : d.nn ≤ 3000) (hr : ∀ n, n < d.nn → (d.nd n).nr ≤ 1048576) : Facts d (HH d) (LL d) := by
  simp only [headB, headA, Bool.and_eq_true, decide_eq_true_eq] at hh
  have ok : Ok3 d := ⟨hh.1.1.1.1.1.1, fun i hi => shape_kids (hs i hi)⟩
  have t : Tree4 d := ⟨ok, h4⟩
  have hp := ok.pos
  have h200 : ∀ n, n < d.nn → (d.nd n).nk ≤ 200 := fun n hn' => shape_nk (hs n hn')
  exact {
    pos := hp
    par0 := hh.1.1.1.2
    par1 := hh.1.1.2
    nk := h200
    kids := ok.kids
    k2 := fun n hn' hk => two_kids (hs n hn') hk
    k4 := fun n hn' hk => four_kids (hs n hn') hk
    r1 := fun n hn' hk => ⟨one_ref (hs n hn') (by omega), leaf_kids (hs n hn') hk⟩
    hL := fun n _ => by have := LN_le d d.nn n; unfold LL; omega
    hH := fun n hn' v => by have := HN_le t h200 hr v d.nn n hn'; unfold HH; omega
    eL := fun n hn' j hj => by rw [t.eL hn' hj]; unfold lup; rw [t.placeP hn' hj]
    eH := fun n hn' j hj v _ => by rw [t.eH hn' hj]; unfold contr; rw [t.placeP hn' hj]
    top := by
      unfold LL
      obtain ⟨m, hm⟩ : ∃ m, d.nn = m + 1 := ⟨d.nn - 1, by omega⟩
      have := t.last
      rw [hm] at this ⊢
      rw [LN, ← hm]; rw [← hm] at this; rw [this]; rfl
    topH := fun v _ => by
      unfold HH
      obtain ⟨m, hm⟩ : ∃ m, d.nn = m + 1 := ⟨d.nn - 1, by omega⟩
      have := t.last
      rw [hm] at this ⊢
      rw [HN, ← hm]; rw [← hm] at this; rw [this]; rfl
    par := fun n hn' => by
      obtain ⟨q, j, h1, h2, _, h4', _⟩ := t.up hn'
      exact ⟨q, h1, j, h2, h4'⟩ }
end Go.Proofs.YtjebijnndfkinaaGreat

namespace Go.Proofs.YtjebijnndfkinaaGreat
open Go.RowKit

theorem anyB_snoc (p : Nat → Bool) : ∀ m i, anyB p i (m + 1) = (anyB p i m || p (i + m))
  | 0, i => by simp [anyB]
  | m + 1, i => by
    rw [anyB, anyB_snoc p m (i + 1), show anyB p i (m + 1) = (p i || anyB p (i + 1) m) from rfl, Bool.or_assoc, show i + 1 + m = i + (m + 1) by omega]
theorem placeI_snoc (f : Nat → Int) (v : Int) : ∀ m i, placeI f v i (m + 1) = if 0 ≤ placeI f v i m then placeI f v i m else if f (i + m) = v then ((i + m : Nat) : Int) else -1
  | 0, i => by simp [placeI]
  | m + 1, i => by
    rw [placeI, placeI_snoc f v m (i + 1), show placeI f v i (m + 1) = if f i = v then (i : Int) else placeI f v (i + 1) m from rfl]
    by_cases e : f i = v
    · simp only [if_pos e]; rw [if_pos (by omega)]
    · simp only [if_neg e]; rw [show i + 1 + m = i + (m + 1) by omega]
theorem cnt_place (nv : Nat) (rf : Nat → Int) {v : Nat} (hv : v < nv) : ∀ m, (0 < cntV nv rf m v) ↔ 0 ≤ placeI rf v 0 m
  | 0 => by simp [cntV, placeI]
  | m + 1 => by
    rw [cntV, placeI_snoc]
    have ih := cnt_place nv rf hv m
    have h0 := (cntV_le nv rf m v).1
    by_cases e : (v : Int) = rf m
    · rw [if_pos ⟨e, hv⟩]
      by_cases e2 : 0 ≤ placeI rf v 0 m
      · rw [if_pos e2]; omega
      · rw [if_neg e2, Nat.zero_add, if_pos e.symm]; omega
    · rw [if_neg (fun h => e h.1)]
      by_cases e2 : 0 ≤ placeI rf v 0 m
      · rw [if_pos e2]; omega
      · rw [if_neg e2, Nat.zero_add, if_neg (fun h => e h.symm)]; omega
theorem let_any (nv : Nat) (nd : Nat → ND) (up : Nat) {v : Nat} (hv : v < nv) : ∀ m, 0 ≤ letS nv nd up m v ∧ ((0 < letS nv nd up m v) ↔ anyB (letAt nd up v) 0 m = true)
  | 0 => by simp [letS, anyB]
  | m + 1 => by
    have ih := let_any nv nd up hv m
    rw [letS_step, anyB_snoc, Bool.or_eq_true, Nat.zero_add]
    have h1 := cnt_place nv (nd ((nd up).kd m).toNat).rf hv (nd ((nd up).kd m).toNat).nr
    have h0 := (cntV_le nv (nd ((nd up).kd m).toNat).rf (nd ((nd up).kd m).toNat).nr v).1
    by_cases e : (nd ((nd up).kd m).toNat).kind = 2
    · rw [if_pos e]
      have e2 : (letAt nd up v m = true) ↔ 0 ≤ placeI (nd ((nd up).kd m).toNat).rf v 0 (nd ((nd up).kd m).toNat).nr := by
        unfold letAt declB; simp [e]
      rw [e2, ← ih.2, ← h1]; omega
    · rw [if_neg e]
      have e2 : letAt nd up v m = false := by unfold letAt; simp [e]
      rw [e2]; simp only [Int.add_zero, Bool.false_eq_true, or_false]; exact ih

theorem Tree4.brings {d : FD} (t : Tree4 d) {below up v : Nat} (hb : below + 1 < d.nn) (hp : parE d.nd d.nn below = (up : Int)) (hv : v < d.nv) : 0 ≤ contr d up below v ∧ ((0 < contr d up below v) ↔ bringsB d.nd v below up = true) := by
  obtain ⟨q, j, h1, h2, h3, h4, h5, _⟩ := t.up hb
  have e : q = up := by omega
  subst e
  have hpl := (t.kid h1 h2).2
  rw [h4] at hpl
  have hpp : YtjebijnndfkinaaGreat.placeP d q below = j := by unfold YtjebijnndfkinaaGreat.placeP; rw [hpl]; rfl
  unfold contr bringsB
  rw [hpp, hpl]
  by_cases k1 : (d.nd q).kind = 1
  · rw [if_pos k1]
    have := let_any d.nv d.nd q hv j
    simp [k1]
    exact this
  · rw [if_neg k1]
    have hc := cnt_place d.nv (d.nd q).rf hv (d.nd q).nr
    have h0 := (cntV_le d.nv (d.nd q).rf (d.nd q).nr v).1
    cases hk : headK (d.nd q).kind
    · rw [if_neg (by simp)]
      have e1 : ((d.nd q).kind == 7 || (d.nd q).kind == 8 || (d.nd q).kind == 12) = false := hk
      rw [e1]; simp [k1]
    · have e1 : ((d.nd q).kind == 7 || (d.nd q).kind == 8 || (d.nd q).kind == 12) = true := hk
      rw [e1]
      by_cases e2 : j + 1 = (d.nd q).nk
      · rw [if_pos ⟨rfl, e2⟩]
        have e3 : ((j : Int) == ((d.nd q).nk : Int) - 1) = true := by simp; omega
        have e4 : declB (d.nd q) v = decide (0 ≤ placeI (d.nd q).rf v 0 (d.nd q).nr) := by
          unfold declB
          have : ((d.nd q).kind == 2 || (d.nd q).kind == 7 || (d.nd q).kind == 8 || (d.nd q).kind == 12) = true := by
            simp only [headK] at hk; grind
          rw [this]; simp
        rw [e3, e4]
        simp [k1]
        exact ⟨h0, hc⟩
      · rw [if_neg (fun h => e2 h.2)]
        have e3 : ((j : Int) == ((d.nd q).nk : Int) - 1) = false := by simp; omega
        rw [e3]; simp [k1]

theorem Tree4.vis {d : FD} (t : Tree4 d) {v : Nat} (hv : v < d.nv) : ∀ f n, n < d.nn → 0 ≤ HN d f n v ∧ ((0 < HN d f n v) ↔ ((v : Int) < d.params ∨ visUp d.nd (parE d.nd d.nn) v f n = true))
  | 0, n, _ => by
    unfold HN base visUp
    split
    · rename_i h; simp [h]
    · rename_i h; simp [h]
  | f + 1, n, hn => by
    rw [HN, visUp]
    by_cases e : parE d.nd d.nn n < 0
    · rw [if_pos e, if_pos e]
      unfold base
      split
      · rename_i h; simp [h]
      · rename_i h; simp [h]
    · rw [if_neg e, if_neg e]
      have a := t.parOk.lt n hn
      have b := t.parOk.gt n hn (by omega)
      have ih := t.vis hv f (parE d.nd d.nn n).toNat (by omega)
      have br := t.brings (below := n) (up := (parE d.nd d.nn n).toNat) (v := v) (by omega) (by omega) hv
      rw [Bool.or_eq_true, ← br.2]
      have i1 := ih.1
      have i2 := ih.2
      have b1 := br.1
      refine ⟨by omega, ?_⟩
      constructor
      · intro h
        by_cases h2 : 0 < contr d (parE d.nd d.nn n).toNat n v
        · exact Or.inr (Or.inl h2)
        · rcases i2.1 (by omega) with h3 | h3
          · exact Or.inl h3
          · exact Or.inr (Or.inr h3)
      · rintro (h | h | h)
        · have := i2.2 (Or.inl h); omega
        · omega
        · have := i2.2 (Or.inr h); omega
theorem Tree4.scope {d : FD} (t : Tree4 d) {n : Nat} (hn : n < d.nn) (x : Int) : scopeB d.nv (HH d n) x = (decide (0 ≤ x) && decide (x < d.nv) && visB d (parE d.nd d.nn) n x) := by
  unfold scopeB withinB
  by_cases h : 0 ≤ x ∧ x < d.nv
  · obtain ⟨v, rfl⟩ := Int.eq_ofNat_of_zero_le h.1
    have hv := (t.vis (v := v) (by omega) d.nn n hn).2
    have e1 : decide (0 ≤ (v : Int)) = true := by simp
    have e2 : decide ((v : Int) < d.nv) = true := by simpa using h.2
    rw [e1, e2]
    unfold visB HH
    rw [Bool.eq_iff_iff]
    simp only [Bool.true_and, Bool.or_eq_true, decide_eq_true_eq]
    exact hv
  · have e : (decide (0 ≤ x) && decide (x < (d.nv : Int))) = false := by
      rw [← Bool.not_eq_true]; simp only [Bool.and_eq_true, decide_eq_true_eq]; exact h
    rw [e]; simp

theorem Tree4.loops {d : FD} (t : Tree4 d) : ∀ f n, n < d.nn → 0 ≤ LN d f n ∧ ((0 < LN d f n) ↔ loopUp d.nd (parE d.nd d.nn) f n = true)
  | 0, n, _ => by simp [LN, loopUp]
  | f + 1, n, hn => by
    rw [LN, loopUp]
    by_cases e : parE d.nd d.nn n < 0
    · rw [if_pos e, if_pos e]; simp
    · rw [if_neg e, if_neg e]
      have a := t.parOk.lt n hn
      have b := t.parOk.gt n hn (by omega)
      obtain ⟨q, j, h1, h2, h3, h4, h5, h6⟩ := t.up (k := n) (by omega)
      rw [h3, show ((q : Int)).toNat = q from rfl]
      have ih := t.loops f q h1
      have hpl := (t.kid h1 h2).2
      rw [h4] at hpl
      have hpp : YtjebijnndfkinaaGreat.placeP d q n = j := by unfold YtjebijnndfkinaaGreat.placeP; rw [hpl]; rfl
      have hl : lup d q n = if loopAt d.nd n q = true then 1 else 0 := by
        unfold lup loopAt
        rw [hpp]
        have e1 : ((d.nd q).kind == 6 || (d.nd q).kind == 7 || (d.nd q).kind == 8) = loopK (d.nd q).kind := rfl
        rw [e1]
        by_cases e2 : j + 1 = (d.nd q).nk
        · have e3 : ((d.nd q).kd ((d.nd q).nk - 1) == (n : Int)) = true := by
            rw [show (d.nd q).nk - 1 = j by omega, h4]; simp
          rw [e3]; simp [e2]
        · have e3 : ((d.nd q).kd ((d.nd q).nk - 1) == (n : Int)) = false := by
            rw [← Bool.not_eq_true]
            intro h
            have h' : (d.nd q).kd ((d.nd q).nk - 1) = (n : Int) := by simpa using h
            have := (h6 q ((d.nd q).nk - 1) h1 (by omega) h').2
            omega
          rw [e3]; simp [e2]
      rw [hl, Bool.or_eq_true, ← ih.2]
      have i1 := ih.1
      by_cases e5 : loopAt d.nd n q = true
      · rw [if_pos e5]; refine ⟨by omega, ?_⟩; constructor
        · intro _; exact Or.inl e5
        · intro _; omega
      · rw [if_neg e5]; refine ⟨by omega, ?_⟩; constructor
        · intro h; exact Or.inr (by omega)
        · rintro (h | h)
          · exact absurd h e5
          · omega
theorem Tree4.inL {d : FD} (t : Tree4 d) {n : Nat} (hn : n < d.nn) : inLB (LL d) n = loopUp d.nd (parE d.nd d.nn) d.nn n := by
  have := (t.loops d.nn n hn).2
  unfold inLB LL
  rw [Bool.eq_iff_iff]; simpa using this

theorem jumpF_eq {d : FD} (t : Tree4 d) : jumpF d (inLB (LL d)) = optI (findN (bad7 d) 0 d.nn) := by
  unfold jumpF
  rw [findN_congr (q := bad7 d) fun j _ hj => by unfold bad7; rw [t.inL (by omega)]]

theorem ups_eq {d g : FD} (t : Tree4 d) {n : Nat} (hn : n < d.nn) : upsF d.nv (HH d n) d.nu g = upsB d (parE d.nd d.nn) n g := by
  unfold upsF upsB
  have : (fun i => upF d.nv (HH d n) d.nu (g.ul i) (g.ui i)) = (fun i => upB d (parE d.nd d.nn) n (g.ul i) (g.ui i)) := by
    funext i
    unfold upF upB
    rw [t.scope hn]
    rfl
  rw [this]
end Go.Proofs.YtjebijnndfkinaaGreat

namespace Go.Proofs.YtjebijnndfkinaaGreat
open Go.RowKit

theorem dec_see (nv : Nat) (rf : Nat → Int) : ∀ (m i : Nat) (dec : Nat → Int) (seen : Nat → Bool), (∀ v, seen v = (dec v != 0)) → (decL nv rf dec i m).1 = (seeL nv rf seen i m).1 ∧ ∀ v, (seeL nv rf seen i m).2 v = ((decL nv rf dec i m).2 v != 0)
  | 0, _, _, _, h => ⟨rfl, h⟩
  | m + 1, i, dec, seen, h => by
    rw [decL, seeL]
    by_cases e : rf i < 0 ∨ (nv : Int) ≤ rf i
    · rw [if_pos e, if_pos e]; exact ⟨rfl, h⟩
    · rw [if_neg e, if_neg e]
      have hv := h (rf i).toNat
      by_cases e2 : dec (rf i).toNat ≠ 0
      · rw [if_pos e2, if_pos (by rw [hv]; simpa using e2)]; exact ⟨rfl, h⟩
      · rw [if_neg e2, if_neg (by rw [hv]; simpa using e2)]
        refine dec_see nv rf m (i + 1) _ _ fun v => ?_
        by_cases e3 : v = (rf i).toNat
        · simp [e3]
        · simp [e3, h v]

theorem no_refs {nd : Nat → ND} {n : Nat} (h : shapeB nd n = true) (h1 : decK (nd n).kind = false) (h2 : (nd n).kind ≠ 26) (h3 : (nd n).kind ≠ 27) (h4 : (nd n).kind ≠ 36) : (nd n).nr = 0 := by
  have hf : fitK (nd n) (kfN nd n) = true := by
    rw [fit_all]
    simp only [shapeB, Bool.and_eq_true] at h
    rw [show inB nd n = true from h.1.2, Bool.true_and]
    have h5 := h.2
    cases hs : statB (nd n).kind
    · rw [hs] at h5; simp at h5; simp [h5.2]
    · rw [hs] at h5; simp at h5; simp [h5.2]
  simp only [decK, Bool.or_eq_false_iff, beq_eq_false_iff_ne] at h1
  obtain ⟨⟨⟨g2, g7⟩, g8⟩, g12⟩ := h1
  rcases kinds_all (nd n).kind with e | e | e | e | e | e | e | e | e | e | e | e | e | e | e | e | e | e | e | e | e | e | e | e | e | e | e | e | e | e | e | e | e | ⟨_, _, e⟩
  · simp [fitK, e, usesB] at hf; omega
  · omega
  · simp [fitK, e, usesB] at hf; omega
  · simp [fitK, e, usesB] at hf; omega
  · simp [fitK, e, usesB] at hf; omega
  · simp [fitK, e, usesB] at hf; omega
  · simp [fitK, e, usesB] at hf; omega
  · omega
  · omega
  · simp [fitK, e, usesB] at hf; omega
  · simp [fitK, e, usesB] at hf; omega
  · simp [fitK, e, usesB] at hf; omega
  · omega
  · simp [fitK, e, usesB] at hf; omega
  · simp [fitK, e, usesB] at hf; omega
  · simp [fitK, e, usesB] at hf; omega
  · simp [fitK, e, usesB] at hf; omega
  · simp [fitK, e, usesB] at hf; omega
  · simp [fitK, e, usesB] at hf; omega
  · simp [fitK, e, usesB] at hf; omega
  · omega
  · omega
  · simp [fitK, e, usesB] at hf; omega
  · simp [fitK, e, usesB] at hf; omega
  · simp [fitK, e, usesB] at hf; omega
  · simp [fitK, e, usesB] at hf; omega
  · simp [fitK, e, usesB] at hf; omega
  · simp [fitK, e, usesB] at hf; omega
  · simp [fitK, e, usesB] at hf; omega
  · simp [fitK, e, usesB] at hf; omega
  · omega
  · simp [fitK, e, usesB] at hf; omega
  · simp [fitK, e, usesB] at hf; omega
  · rw [e _ rfl] at hf; cases hf

theorem refs_eq {u : UD} {d : FD} (t : Tree4 d) {n : Nat} (hn : n < d.nn) (hs : shapeB d.nd n = true) (dec : Nat → Int) (seen : Nat → Bool) (h : ∀ v, seen v = (dec v != 0)) : (refs1 u d (fndB u d (HH d)) n dec).1 = (refsB u d (parE d.nd d.nn) n seen).1 ∧ ∀ v, (refsB u d (parE d.nd d.nn) n seen).2 v = ((refs1 u d (fndB u d (HH d)) n dec).2 v != 0) := by
  unfold refs1 refsB
  simp only
  cases hk : decK (d.nd n).kind
  · rw [if_neg (by simp)]
    by_cases k26 : (d.nd n).kind = 26
    · rw [if_pos k26, if_neg (by omega), if_neg (by omega), if_pos k26]
      refine ⟨?_, h⟩
      show fndB u d (HH d) n = _
      unfold fndB
      rw [if_pos k26, t.scope hn]
    · rw [if_neg k26]
      by_cases k27 : (d.nd n).kind = 27
      · rw [if_pos k27, if_pos k27]; exact ⟨rfl, h⟩
      · rw [if_neg k27, if_neg k27]
        by_cases k36 : (d.nd n).kind = 36
        · rw [if_pos k36, if_pos k36]; exact ⟨rfl, h⟩
        · rw [if_neg k36, if_neg k36, if_neg k26, no_refs hs hk k26 k27 k36]
          exact ⟨rfl, h⟩
  · have hk' : (d.nd n).kind = 2 ∨ (d.nd n).kind = 7 ∨ (d.nd n).kind = 8 ∨ (d.nd n).kind = 12 := by
      simp only [decK, Bool.or_eq_true, beq_iff_eq] at hk; omega
    rw [if_pos rfl, if_neg (by omega), if_neg (by omega), if_neg (by omega)]
    exact dec_see d.nv (d.nd n).rf (d.nd n).nr 0 dec seen h

theorem find6_eq {u : UD} {d : FD} (t : Tree4 d) (hs : ∀ n, n < d.nn → shapeB d.nd n = true) : ∀ (m n : Nat) (dec : Nat → Int) (seen : Nat → Bool), n + m ≤ d.nn → (∀ v, seen v = (dec v != 0)) → find6F u d (fndB u d (HH d)) dec n m = find6 u d (parE d.nd d.nn) seen n m
  | 0, _, _, _, _, _ => rfl
  | m + 1, n, dec, seen, hn, h => by
    obtain ⟨h1, h2⟩ := refs_eq (u := u) t (n := n) (by omega) (hs n (by omega)) dec seen h
    rw [find6F, find6, h1]
    by_cases e : (refsB u d (parE d.nd d.nn) n seen).1 = true
    · rw [if_pos e, if_pos e]
      exact find6_eq t hs m (n + 1) _ _ (by omega) h2
    · rw [if_neg e, if_neg e]
theorem refsF_eq {u : UD} {f : Nat} (t : Tree4 (u.fn f)) (hs : ∀ n, n < (u.fn f).nn → shapeB (u.fn f).nd n = true) : refsF u (u.fn f) (fndB u (u.fn f) (HH (u.fn f))) = optI (bad6 u f) := by
  unfold refsF bad6
  rw [find6_eq t hs (u.fn f).nn 0 _ (seen0 (u.fn f).params) (by omega) fun v => by
    unfold seen0 dec0
    by_cases e : (v : Int) < (u.fn f).params
    · simp [e]
    · simp [e]]

theorem find6F_none {u : UD} {d : FD} {q : Nat → Bool} : ∀ {m n : Nat} {dec : Nat → Int}, find6F u d q dec n m = none → ∀ j, n ≤ j → j < n + m → ∃ dc, (refs1 u d q j dc).1 = true
  | 0, n, _, _, j, h1, h2 => by omega
  | m + 1, n, dec, h, j, h1, h2 => by
    rw [find6F] at h
    by_cases hr : (refs1 u d q n dec).1 = true
    · rw [if_pos hr] at h
      by_cases e : n = j
      · subst e; exact ⟨dec, hr⟩
      · exact find6F_none h j (by omega) (by omega)
    · rw [if_neg hr] at h; cases h
/-- Code 6 has found nothing: a NFn names a fn. -/
theorem six_in {u : UD} {d : FD} {q : Nat → Bool} (h : refsF u d q = -1) {n : Nat} (hn : n < d.nn) (hk : (d.nd n).kind = 36) : 0 ≤ (d.nd n).rf 0 ∧ (d.nd n).rf 0 < u.nf := by
  obtain ⟨dc, hr⟩ := find6F_none (optI_none.1 h) n (Nat.zero_le _) (by omega)
  unfold refs1 at hr
  rw [if_neg (by rw [hk]; decide), if_neg (by omega), if_neg (by omega), if_pos hk] at hr
  simpa [withinB] using hr
end Go.Proofs.YtjebijnndfkinaaGreat
