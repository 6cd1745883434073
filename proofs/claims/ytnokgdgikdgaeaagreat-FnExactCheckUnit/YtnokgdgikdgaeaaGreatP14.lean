import Derived.Test.YtnokgdgikdgaeaaGreatP13
import Derived.Test.YtnokgdgikdgaeaaGreatP05
namespace Go.Proofs.YtnokgdgikdgaeaaGreat
open Go.RowKit

theorem anyB_snoc (p : Nat → Bool) : ∀ m i, anyB p i (m + 1) = (anyB p i m || p (i + m))
  | 0, i => by simp [anyB]
  | m + 1, i => by
    rw [anyB, anyB_snoc p m (i + 1), show anyB p i (m + 1) = (p i || anyB p (i + 1) m) from rfl, Bool.or_assoc, show i + 1 + m = i + (m + 1) by omega]
theorem placeI_snoc (f : Nat → Int) (v : Int) : ∀ m i, placeI f v i (m + 1) = if 0 ≤ placeI f v i m then placeI f v i m else if f (i + m) = v then ((i + m : Nat) : Int) else -1
  | 0, i => by simp [placeI]
  | m + 1, i => by
    rw [placeI, placeI_snoc f v m (i + 1), show placeI f v i (m + 1) = if f i = v then (i : Int) else placeI f v (i + 1) m from rfl]
    by_cases e : f i = v
    · simp only [if_pos e]; rw [if_pos (by omega)]
    · simp only [if_neg e]; rw [show i + 1 + m = i + (m + 1) by omega]
theorem cnt_place (nv : Nat) (rf : Nat → Int) {v : Nat} (hv : v < nv) : ∀ m, (0 < cntV nv rf m v) ↔ 0 ≤ placeI rf v 0 m
  | 0 => by simp [cntV, placeI]
  | m + 1 => by
    rw [cntV, placeI_snoc]
    have ih := cnt_place nv rf hv m
    have h0 := (cntV_le nv rf m v).1
    by_cases e : (v : Int) = rf m
    · rw [if_pos ⟨e, hv⟩]
      by_cases e2 : 0 ≤ placeI rf v 0 m
      · rw [if_pos e2]; omega
      · rw [if_neg e2, Nat.zero_add, if_pos e.symm]; omega
    · rw [if_neg (fun h => e h.1)]
      by_cases e2 : 0 ≤ placeI rf v 0 m
      · rw [if_pos e2]; omega
      · rw [if_neg e2, Nat.zero_add, if_neg (fun h => e h.symm)]; omega
theorem let_any (nv : Nat) (nd : Nat → ND) (up : Nat) {v : Nat} (hv : v < nv) : ∀ m, 0 ≤ letS nv nd up m v ∧ ((0 < letS nv nd up m v) ↔ anyB (letAt nd up v) 0 m = true)
  | 0 => by simp [letS, anyB]
  | m + 1 => by
    have ih := let_any nv nd up hv m
    rw [letS_step, anyB_snoc, Bool.or_eq_true, Nat.zero_add]
    have h1 := cnt_place nv (nd ((nd up).kd m).toNat).rf hv (nd ((nd up).kd m).toNat).nr
    have h0 := (cntV_le nv (nd ((nd up).kd m).toNat).rf (nd ((nd up).kd m).toNat).nr v).1
    by_cases e : (nd ((nd up).kd m).toNat).kind = 2
    · rw [if_pos e]
      have e2 : (letAt nd up v m = true) ↔ 0 ≤ placeI (nd ((nd up).kd m).toNat).rf v 0 (nd ((nd up).kd m).toNat).nr := by
        unfold letAt declB; simp [e]
      rw [e2, ← ih.2, ← h1]; omega
    · rw [if_neg e]
      have e2 : letAt nd up v m = false := by unfold letAt; simp [e]
      rw [e2]; simp only [Int.add_zero, Bool.false_eq_true, or_false]; exact ih

theorem Tree4.brings {d : FD} (t : Tree4 d) {below up v : Nat} (hb : below + 1 < d.nn) (hp : parE d.nd d.nn below = (up : Int)) (hv : v < d.nv) : 0 ≤ contr d up below v ∧ ((0 < contr d up below v) ↔ bringsB d.nd v below up = true) := by
  obtain ⟨q, j, h1, h2, h3, h4, h5, _⟩ := t.up hb
  have e : q = up := by omega
  subst e
  have hpl := (t.kid h1 h2).2
  rw [h4] at hpl
  have hpp : YtnokgdgikdgaeaaGreat.placeP d q below = j := by unfold YtnokgdgikdgaeaaGreat.placeP; rw [hpl]; rfl
  unfold contr bringsB
  rw [hpp, hpl]
  by_cases k1 : (d.nd q).kind = 1
  · rw [if_pos k1]
    have := let_any d.nv d.nd q hv j
    simp [k1]
    exact this
  · rw [if_neg k1]
    have hc := cnt_place d.nv (d.nd q).rf hv (d.nd q).nr
    have h0 := (cntV_le d.nv (d.nd q).rf (d.nd q).nr v).1
    cases hk : headK (d.nd q).kind
    · rw [if_neg (by simp)]
      have e1 : ((d.nd q).kind == 7 || (d.nd q).kind == 8 || (d.nd q).kind == 12) = false := hk
      rw [e1]; simp [k1]
    · have e1 : ((d.nd q).kind == 7 || (d.nd q).kind == 8 || (d.nd q).kind == 12) = true := hk
      rw [e1]
      by_cases e2 : j + 1 = (d.nd q).nk
      · rw [if_pos ⟨rfl, e2⟩]
        have e3 : ((j : Int) == ((d.nd q).nk : Int) - 1) = true := by simp; omega
        have e4 : declB (d.nd q) v = decide (0 ≤ placeI (d.nd q).rf v 0 (d.nd q).nr) := by
          unfold declB
          have : ((d.nd q).kind == 2 || (d.nd q).kind == 7 || (d.nd q).kind == 8 || (d.nd q).kind == 12) = true := by
            simp only [headK] at hk; grind
          rw [this]; simp
        rw [e3, e4]
        simp [k1]
        exact ⟨h0, hc⟩
      · rw [if_neg (fun h => e2 h.2)]
        have e3 : ((j : Int) == ((d.nd q).nk : Int) - 1) = false := by simp; omega
        rw [e3]; simp [k1]

theorem Tree4.vis {d : FD} (t : Tree4 d) {v : Nat} (hv : v < d.nv) : ∀ f n, n < d.nn → 0 ≤ HN d f n v ∧ ((0 < HN d f n v) ↔ ((v : Int) < d.params ∨ visUp d.nd (parE d.nd d.nn) v f n = true))
  | 0, n, _ => by
    unfold HN base visUp
    split
    · rename_i h; simp [h]
    · rename_i h; simp [h]
  | f + 1, n, hn => by
    rw [HN, visUp]
    by_cases e : parE d.nd d.nn n < 0
    · rw [if_pos e, if_pos e]
      unfold base
      split
      · rename_i h; simp [h]
      · rename_i h; simp [h]
    · rw [if_neg e, if_neg e]
      have a := t.parOk.lt n hn
      have b := t.parOk.gt n hn (by omega)
      have ih := t.vis hv f (parE d.nd d.nn n).toNat (by omega)
      have br := t.brings (below := n) (up := (parE d.nd d.nn n).toNat) (v := v) (by omega) (by omega) hv
      rw [Bool.or_eq_true, ← br.2]
      have i1 := ih.1
      have i2 := ih.2
      have b1 := br.1
      refine ⟨by omega, ?_⟩
      constructor
      · intro h
        by_cases h2 : 0 < contr d (parE d.nd d.nn n).toNat n v
        · exact Or.inr (Or.inl h2)
        · rcases i2.1 (by omega) with h3 | h3
          · exact Or.inl h3
          · exact Or.inr (Or.inr h3)
      · rintro (h | h | h)
        · have := i2.2 (Or.inl h); omega
        · omega
        · have := i2.2 (Or.inr h); omega
theorem Tree4.scope {d : FD} (t : Tree4 d) {n : Nat} (hn : n < d.nn) (x : Int) : scopeB d.nv (HH d n) x = (decide (0 ≤ x) && decide (x < d.nv) && visB d (parE d.nd d.nn) n x) := by
  unfold scopeB withinB
  by_cases h : 0 ≤ x ∧ x < d.nv
  · obtain ⟨v, rfl⟩ := Int.eq_ofNat_of_zero_le h.1
    have hv := (t.vis (v := v) (by omega) d.nn n hn).2
    have e1 : decide (0 ≤ (v : Int)) = true := by simp
    have e2 : decide ((v : Int) < d.nv) = true := by simpa using h.2
    rw [e1, e2]
    unfold visB HH
    rw [Bool.eq_iff_iff]
    simp only [Bool.true_and, Bool.or_eq_true, decide_eq_true_eq]
    exact hv
  · have e : (decide (0 ≤ x) && decide (x < (d.nv : Int))) = false := by
      rw [← Bool.not_eq_true]; simp only [Bool.and_eq_true, decide_eq_true_eq]; exact h
    rw [e]; simp

theorem Tree4.loops {d : FD} (t : Tree4 d) : ∀ f n, n < d.nn → 0 ≤ LN d f n ∧ ((0 < LN d f n) ↔ loopUp d.nd (parE d.nd d.nn) f n = true)
  | 0, n, _ => by simp [LN, loopUp]
  | f + 1, n, hn => by
    rw [LN, loopUp]
    by_cases e : parE d.nd d.nn n < 0
    · rw [if_pos e, if_pos e]; simp
    · rw [if_neg e, if_neg e]
      have a := t.parOk.lt n hn
      have b := t.parOk.gt n hn (by omega)
      obtain ⟨q, j, h1, h2, h3, h4, h5, h6⟩ := t.up (k := n) (by omega)
      rw [h3, show ((q : Int)).toNat = q from rfl]
      have ih := t.loops f q h1
      have hpl := (t.kid h1 h2).2
      rw [h4] at hpl
      have hpp : YtnokgdgikdgaeaaGreat.placeP d q n = j := by unfold YtnokgdgikdgaeaaGreat.placeP; rw [hpl]; rfl
      have hl : lup d q n = if loopAt d.nd n q = true then 1 else 0 := by
        unfold lup loopAt
        rw [hpp]
        have e1 : ((d.nd q).kind == 6 || (d.nd q).kind == 7 || (d.nd q).kind == 8) = loopK (d.nd q).kind := rfl
        rw [e1]
        by_cases e2 : j + 1 = (d.nd q).nk
        · have e3 : ((d.nd q).kd ((d.nd q).nk - 1) == (n : Int)) = true := by
            rw [show (d.nd q).nk - 1 = j by omega, h4]; simp
          rw [e3]; simp [e2]
        · have e3 : ((d.nd q).kd ((d.nd q).nk - 1) == (n : Int)) = false := by
            rw [← Bool.not_eq_true]
            intro h
            have h' : (d.nd q).kd ((d.nd q).nk - 1) = (n : Int) := by simpa using h
            have := (h6 q ((d.nd q).nk - 1) h1 (by omega) h').2
            omega
          rw [e3]; simp [e2]
      rw [hl, Bool.or_eq_true, ← ih.2]
      have i1 := ih.1
      by_cases e5 : loopAt d.nd n q = true
      · rw [if_pos e5]; refine ⟨by omega, ?_⟩; constructor
        · intro _; exact Or.inl e5
        · intro _; omega
      · rw [if_neg e5]; refine ⟨by omega, ?_⟩; constructor
        · intro h; exact Or.inr (by omega)
        · rintro (h | h)
          · exact absurd h e5
          · omega
theorem Tree4.inL {d : FD} (t : Tree4 d) {n : Nat} (hn : n < d.nn) : inLB (LL d) n = loopUp d.nd (parE d.nd d.nn) d.nn n := by
  have := (t.loops d.nn n hn).2
  unfold inLB LL
  rw [Bool.eq_iff_iff]; simpa using this

theorem jumpF_eq {d : FD} (t : Tree4 d) : jumpF d (inLB (LL d)) = optI (findN (bad7 d) 0 d.nn) := by
  unfold jumpF
  rw [findN_congr (q := bad7 d) fun j _ hj => by unfold bad7; rw [t.inL (by omega)]]

theorem ups_eq {d g : FD} (t : Tree4 d) {n : Nat} (hn : n < d.nn) : upsF d.nv (HH d n) d.nu g = upsB d (parE d.nd d.nn) n g := by
  unfold upsF upsB
  have : (fun i => upF d.nv (HH d n) d.nu (g.ul i) (g.ui i)) = (fun i => upB d (parE d.nd d.nn) n (g.ul i) (g.ui i)) := by
    funext i
    unfold upF upB
    rw [t.scope hn]
    rfl
  rw [this]
end Go.Proofs.YtnokgdgikdgaeaaGreat

namespace Go.Proofs.YtnokgdgikdgaeaaGreat
open Go.RowKit

theorem dec_see (nv : Nat) (rf : Nat → Int) : ∀ (m i : Nat) (dec : Nat → Int) (seen : Nat → Bool), (∀ v, seen v = (dec v != 0)) → (decL nv rf dec i m).1 = (seeL nv rf seen i m).1 ∧ ∀ v, (seeL nv rf seen i m).2 v = ((decL nv rf dec i m).2 v != 0)
  | 0, _, _, _, h => ⟨rfl, h⟩
  | m + 1, i, dec, seen, h => by
    rw [decL, seeL]
    by_cases e : rf i < 0 ∨ (nv : Int) ≤ rf i
    · rw [if_pos e, if_pos e]; exact ⟨rfl, h⟩
    · rw [if_neg e, if_neg e]
      have hv := h (rf i).toNat
      by_cases e2 : dec (rf i).toNat ≠ 0
      · rw [if_pos e2, if_pos (by rw [hv]; simpa using e2)]; exact ⟨rfl, h⟩
      · rw [if_neg e2, if_neg (by rw [hv]; simpa using e2)]
        refine dec_see nv rf m (i + 1) _ _ fun v => ?_
        by_cases e3 : v = (rf i).toNat
        · simp [e3]
        · simp [e3, h v]

theorem no_refs {nd : Nat → ND} {n : Nat} (h : shapeB nd n = true) (h1 : decK (nd n).kind = false) (h2 : (nd n).kind ≠ 26) (h3 : (nd n).kind ≠ 27) (h4 : (nd n).kind ≠ 36) : (nd n).nr = 0 := by
  have hf : fitK (nd n) (kfN nd n) = true := by
    rw [fit_all]
    simp only [shapeB, Bool.and_eq_true] at h
    rw [show inB nd n = true from h.1.2, Bool.true_and]
    have h5 := h.2
    cases hs : statB (nd n).kind
    · rw [hs] at h5; simp at h5; simp [h5.2]
    · rw [hs] at h5; simp at h5; simp [h5.2]
  simp only [decK, Bool.or_eq_false_iff, beq_eq_false_iff_ne] at h1
  obtain ⟨⟨⟨g2, g7⟩, g8⟩, g12⟩ := h1
  rcases kinds_all (nd n).kind with e | e | e | e | e | e | e | e | e | e | e | e | e | e | e | e | e | e | e | e | e | e | e | e | e | e | e | e | e | e | e | e | e | ⟨_, _, e⟩
  · simp [fitK, e, usesB] at hf; omega
  · omega
  · simp [fitK, e, usesB] at hf; omega
  · simp [fitK, e, usesB] at hf; omega
  · simp [fitK, e, usesB] at hf; omega
  · simp [fitK, e, usesB] at hf; omega
  · simp [fitK, e, usesB] at hf; omega
  · omega
  · omega
  · simp [fitK, e, usesB] at hf; omega
  · simp [fitK, e, usesB] at hf; omega
  · simp [fitK, e, usesB] at hf; omega
  · omega
  · simp [fitK, e, usesB] at hf; omega
  · simp [fitK, e, usesB] at hf; omega
  · simp [fitK, e, usesB] at hf; omega
  · simp [fitK, e, usesB] at hf; omega
  · simp [fitK, e, usesB] at hf; omega
  · simp [fitK, e, usesB] at hf; omega
  · simp [fitK, e, usesB] at hf; omega
  · omega
  · omega
  · simp [fitK, e, usesB] at hf; omega
  · simp [fitK, e, usesB] at hf; omega
  · simp [fitK, e, usesB] at hf; omega
  · simp [fitK, e, usesB] at hf; omega
  · simp [fitK, e, usesB] at hf; omega
  · simp [fitK, e, usesB] at hf; omega
  · simp [fitK, e, usesB] at hf; omega
  · simp [fitK, e, usesB] at hf; omega
  · omega
  · simp [fitK, e, usesB] at hf; omega
  · simp [fitK, e, usesB] at hf; omega
  · rw [e _ rfl] at hf; cases hf

theorem refs_eq {u : UD} {d : FD} (t : Tree4 d) {n : Nat} (hn : n < d.nn) (hs : shapeB d.nd n = true) (dec : Nat → Int) (seen : Nat → Bool) (h : ∀ v, seen v = (dec v != 0)) : (refs1 u d (fndB u d (HH d)) n dec).1 = (refsB u d (parE d.nd d.nn) n seen).1 ∧ ∀ v, (refsB u d (parE d.nd d.nn) n seen).2 v = ((refs1 u d (fndB u d (HH d)) n dec).2 v != 0) := by
  unfold refs1 refsB
  simp only
  cases hk : decK (d.nd n).kind
  · rw [if_neg (by simp)]
    by_cases k26 : (d.nd n).kind = 26
    · rw [if_pos k26, if_neg (by omega), if_neg (by omega), if_pos k26]
      refine ⟨?_, h⟩
      show fndB u d (HH d) n = _
      unfold fndB
      rw [if_pos k26, t.scope hn]
    · rw [if_neg k26]
      by_cases k27 : (d.nd n).kind = 27
      · rw [if_pos k27, if_pos k27]; exact ⟨rfl, h⟩
      · rw [if_neg k27, if_neg k27]
        by_cases k36 : (d.nd n).kind = 36
        · rw [if_pos k36, if_pos k36]; exact ⟨rfl, h⟩
        · rw [if_neg k36, if_neg k36, if_neg k26, no_refs hs hk k26 k27 k36]
          exact ⟨rfl, h⟩
  · have hk' : (d.nd n).kind = 2 ∨ (d.nd n).kind = 7 ∨ (d.nd n).kind = 8 ∨ (d.nd n).kind = 12 := by
      simp only [decK, Bool.or_eq_true, beq_iff_eq] at hk; omega
    rw [if_pos rfl, if_neg (by omega), if_neg (by omega), if_neg (by omega)]
    exact dec_see d.nv (d.nd n).rf (d.nd n).nr 0 dec seen h

theorem find6_eq {u : UD} {d : FD} (t : Tree4 d) (hs : ∀ n, n < d.nn → shapeB d.nd n = true) : ∀ (m n : Nat) (dec : Nat → Int) (seen : Nat → Bool), n + m ≤ d.nn → (∀ v, seen v = (dec v != 0)) → find6F u d (fndB u d (HH d)) dec n m = find6 u d (parE d.nd d.nn) seen n m
  | 0, _, _, _, _, _ => rfl
  | m + 1, n, dec, seen, hn, h => by
    obtain ⟨h1, h2⟩ := refs_eq (u := u) t (n := n) (by omega) (hs n (by omega)) dec seen h
    rw [find6F, find6, h1]
    by_cases e : (refsB u d (parE d.nd d.nn) n seen).1 = true
    · rw [if_pos e, if_pos e]
      exact find6_eq t hs m (n + 1) _ _ (by omega) h2
    · rw [if_neg e, if_neg e]
theorem refsF_eq {u : UD} {f : Nat} (t : Tree4 (u.fn f)) (hs : ∀ n, n < (u.fn f).nn → shapeB (u.fn f).nd n = true) : refsF u (u.fn f) (fndB u (u.fn f) (HH (u.fn f))) = optI (bad6 u f) := by
  unfold refsF bad6
  rw [find6_eq t hs (u.fn f).nn 0 _ (seen0 (u.fn f).params) (by omega) fun v => by
    unfold seen0 dec0
    by_cases e : (v : Int) < (u.fn f).params
    · simp [e]
    · simp [e]]

theorem find6F_none {u : UD} {d : FD} {q : Nat → Bool} : ∀ {m n : Nat} {dec : Nat → Int}, find6F u d q dec n m = none → ∀ j, n ≤ j → j < n + m → ∃ dc, (refs1 u d q j dc).1 = true
  | 0, n, _, _, j, h1, h2 => by omega
  | m + 1, n, dec, h, j, h1, h2 => by
    rw [find6F] at h
    by_cases hr : (refs1 u d q n dec).1 = true
    · rw [if_pos hr] at h
      by_cases e : n = j
      · subst e; exact ⟨dec, hr⟩
      · exact find6F_none h j (by omega) (by omega)
    · rw [if_neg hr] at h; cases h
/-- Code 6 has found nothing: a NFn names a fn. -/
theorem six_in {u : UD} {d : FD} {q : Nat → Bool} (h : refsF u d q = -1) {n : Nat} (hn : n < d.nn) (hk : (d.nd n).kind = 36) : 0 ≤ (d.nd n).rf 0 ∧ (d.nd n).rf 0 < u.nf := by
  obtain ⟨dc, hr⟩ := find6F_none (optI_none.1 h) n (Nat.zero_le _) (by omega)
  unfold refs1 at hr
  rw [if_neg (by rw [hk]; decide), if_neg (by omega), if_neg (by omega), if_pos hk] at hr
  simpa [withinB] using hr
end Go.Proofs.YtnokgdgikdgaeaaGreat

namespace Go.Proofs.YtnokgdgikdgaeaaGreat
open Go.RowKit

/-- Once a fn has its maker, it keeps it. -/
theorem mk1_keep (u : UD) (f : Nat) (s : MK) {g : Nat} {x : Nat × Nat} : ∀ (m n : Nat), mk1 u f s n g = some x → mk1 u f s (n + m) g = some x
  | 0, _, h => h
  | m + 1, n, h => by
    have ih := mk1_keep u f s m n h
    rw [← Nat.add_assoc, mk1_step]
    split
    · rename_i hc
      simp only
      rw [if_neg]
      · exact ih
      · intro e
        rw [← e, ih] at hc
        exact absurd hc.2.2 (by simp)
    · exact ih
theorem mk1_keep' (u : UD) (f : Nat) (s : MK) {g : Nat} {x : Nat × Nat} {n n' : Nat} (hn : n ≤ n') (h : mk1 u f s n g = some x) : mk1 u f s n' g = some x := by
  have := mk1_keep u f s (n' - n) n h
  rwa [show n + (n' - n) = n' by omega] at this
theorem mkF_keep (u : UD) {g : Nat} {x : Nat × Nat} : ∀ (m f : Nat), mkF u f g = some x → mkF u (f + m) g = some x
  | 0, _, h => h
  | m + 1, f, h => by
    have ih := mkF_keep u m f h
    rw [← Nat.add_assoc, mkF]
    exact mk1_keep' u (f + m) _ (Nat.zero_le _) ih
theorem mkF_keep' (u : UD) {g : Nat} {x : Nat × Nat} {f f' : Nat} (hf : f ≤ f') (h : mkF u f g = some x) : mkF u f' g = some x := by
  have := mkF_keep u (f' - f) f h
  rwa [show f + (f' - f) = f' by omega] at this
/-- A maker that is known ahead of a node stands ahead of it. -/
theorem mk1_ahead (u : UD) (f : Nat) (s : MK) (hs : ∀ g x, s g = some x → x.1 < f) : ∀ (n : Nat) (g : Nat) (x : Nat × Nat), mk1 u f s n g = some x → x.1 < f ∨ (x.1 = f ∧ x.2 < n)
  | 0, g, x, h => Or.inl (hs g x h)
  | n + 1, g, x, h => by
    rw [mk1_step] at h
    split at h
    · simp only at h
      split at h
      · cases h; exact Or.inr ⟨rfl, Nat.lt_succ_self _⟩
      · rcases mk1_ahead u f s hs n g x h with h1 | h1
        · exact Or.inl h1
        · exact Or.inr ⟨h1.1, by omega⟩
    · rcases mk1_ahead u f s hs n g x h with h1 | h1
      · exact Or.inl h1
      · exact Or.inr ⟨h1.1, by omega⟩
theorem mkF_ahead (u : UD) : ∀ (f g : Nat) (x : Nat × Nat), mkF u f g = some x → x.1 < f
  | 0, _, _, h => by cases h
  | f + 1, g, x, h => by
    rw [mkF] at h
    rcases mk1_ahead u f _ (fun g x h => mkF_ahead u f g x h) _ g x h with h1 | h1
    · omega
    · omega

/-- What codes 1 to 7 leave of one fn. -/
structure Ok8 (u : UD) (f : Nat) : Prop where
  t : Tree4 (u.fn f)
  fns : ∀ n, n < (u.fn f).nn → ((u.fn f).nd n).kind = 36 → 0 ≤ ((u.fn f).nd n).rf 0 ∧ ((u.fn f).nd n).rf 0 < u.nf

theorem made_eq {u : UD} {f n : Nat} (o : Ok8 u f) (hf : f < u.nf) (hn : n < (u.fn f).nn) (hk : ((u.fn f).nd n).kind = 36) :
    madeOk (u.fn f) f (mkF u u.nf) (fndB u (u.fn f) (HH (u.fn f))) n = (decide ((f : Int) < ((u.fn f).nd n).rf 0) && !(mk1 u f (mkF u f) n (((u.fn f).nd n).rf 0).toNat).isSome && upsB (u.fn f) (parE (u.fn f).nd (u.fn f).nn) n (u.fn (((u.fn f).nd n).rf 0).toNat)) := by
  obtain ⟨r0, r1⟩ := o.fns n hn hk
  have hw : withinB (((u.fn f).nd n).rf 0) u.nf = true := by simp [withinB]; omega
  unfold madeOk
  rw [if_neg (by omega), if_pos hk]
  have eq1 : fndB u (u.fn f) (HH (u.fn f)) n = upsB (u.fn f) (parE (u.fn f).nd (u.fn f).nn) n (u.fn (((u.fn f).nd n).rf 0).toNat) := by
    unfold fndB
    rw [if_neg (by omega), if_pos hk]
    unfold findsB
    rw [hw, ups_eq o.t hn]; rfl
  rw [eq1]
  have eq2 : decide (mkF u u.nf (((u.fn f).nd n).rf 0).toNat = some (f, n)) = !(mk1 u f (mkF u f) n (((u.fn f).nd n).rf 0).toNat).isSome := by
    cases hm : mk1 u f (mkF u f) n (((u.fn f).nd n).rf 0).toNat with
    | none =>
      have h1 : mk1 u f (mkF u f) (n + 1) (((u.fn f).nd n).rf 0).toNat = some (f, n) := by
        rw [mk1_step, if_pos ⟨hk, hw, by rw [hm]; rfl⟩]; simp
      have h2 : mkF u (f + 1) (((u.fn f).nd n).rf 0).toNat = some (f, n) := by
        rw [mkF]; exact mk1_keep' u f _ (by omega) h1
      have h3 := mkF_keep' u (show f + 1 ≤ u.nf by omega) h2
      rw [h3]; simp
    | some x =>
      have h2 : mkF u (f + 1) (((u.fn f).nd n).rf 0).toNat = some x := by
        rw [mkF]; exact mk1_keep' u f _ (by omega) hm
      have h3 := mkF_keep' u (show f + 1 ≤ u.nf by omega) h2
      have h4 := mk1_ahead u f _ (fun g x h => mkF_ahead u f g x h) n _ x hm
      rw [h3]
      have : x ≠ (f, n) := by rintro rfl; simp at h4
      simp [this]
  rw [eq2]

theorem make8_eq {u : UD} {f : Nat} (o : Ok8 u f) (hf : f < u.nf) : ∀ (m n : Nat) (made : Nat → Bool), n + m ≤ (u.fn f).nn → (∀ k, made k = (mk1 u f (mkF u f) n k).isSome) →
    (make8 u f (parE (u.fn f).nd (u.fn f).nn) made n m).1 = findN (fun n => !madeOk (u.fn f) f (mkF u u.nf) (fndB u (u.fn f) (HH (u.fn f))) n) n m ∧
    ((make8 u f (parE (u.fn f).nd (u.fn f).nn) made n m).1 = none → ∀ k, (make8 u f (parE (u.fn f).nd (u.fn f).nn) made n m).2 k = (mk1 u f (mkF u f) (n + m) k).isSome)
  | 0, n, made, _, h => ⟨rfl, fun _ => h⟩
  | m + 1, n, made, hn, h => by
    rw [make8, findN]
    by_cases h37 : ((u.fn f).nd n).kind = 37
    · have mo : madeOk (u.fn f) f (mkF u u.nf) (fndB u (u.fn f) (HH (u.fn f))) n = (u.fn f).rest := by unfold madeOk; rw [if_pos h37]
      rw [mo]
      cases hr : (u.fn f).rest
      · rw [if_pos ⟨h37, rfl⟩]; exact ⟨rfl, fun h => by cases h⟩
      · rw [if_neg (by simp), if_pos (by omega)]
        have st : mk1 u f (mkF u f) (n + 1) = mk1 u f (mkF u f) n := by rw [mk1_step, if_neg (by omega)]
        have ih := make8_eq o hf m (n + 1) made (by omega) (fun k => by rw [st]; exact h k)
        rw [show n + (m + 1) = n + 1 + m by omega]
        exact ih
    · rw [if_neg (fun h => h37 h.1)]
      by_cases h36 : ((u.fn f).nd n).kind = 36
      · rw [if_neg (fun h => h h36), made_eq o hf (by omega) h36]
        have hm := h (((u.fn f).nd n).rf 0).toNat
        obtain ⟨r0, r1⟩ := o.fns n (by omega) h36
        have hw : withinB (((u.fn f).nd n).rf 0) u.nf = true := by simp [withinB]; omega
        by_cases hc : ((u.fn f).nd n).rf 0 ≤ f ∨ made (((u.fn f).nd n).rf 0).toNat = true ∨ upsB (u.fn f) (parE (u.fn f).nd (u.fn f).nn) n (u.fn (((u.fn f).nd n).rf 0).toNat) = false
        · rw [if_pos hc]
          have e : (decide ((f : Int) < ((u.fn f).nd n).rf 0) && !(mk1 u f (mkF u f) n (((u.fn f).nd n).rf 0).toNat).isSome && upsB (u.fn f) (parE (u.fn f).nd (u.fn f).nn) n (u.fn (((u.fn f).nd n).rf 0).toNat)) = false := by
            rw [← hm]
            rcases hc with h1 | h1 | h1
            · have : decide ((f : Int) < ((u.fn f).nd n).rf 0) = false := by simp; omega
              rw [this]; rfl
            · rw [h1]; simp
            · rw [h1]; simp
          rw [e]
          exact ⟨rfl, fun h => by cases h⟩
        · rw [if_neg hc]
          simp only [not_or, Bool.not_eq_true, Bool.not_eq_false] at hc
          have e : (decide ((f : Int) < ((u.fn f).nd n).rf 0) && !(mk1 u f (mkF u f) n (((u.fn f).nd n).rf 0).toNat).isSome && upsB (u.fn f) (parE (u.fn f).nd (u.fn f).nn) n (u.fn (((u.fn f).nd n).rf 0).toNat)) = true := by
            rw [← hm, hc.2.1, hc.2.2]
            have : decide ((f : Int) < ((u.fn f).nd n).rf 0) = true := by simp; omega
            rw [this]; rfl
          rw [e]
          have st := mk1_step u f (mkF u f) n
          rw [if_pos ⟨h36, hw, by rw [← hm]; exact hc.2.1⟩] at st
          have ih := make8_eq o hf m (n + 1) (fun k => if k = (((u.fn f).nd n).rf 0).toNat then true else made k) (by omega) (fun k => by
            rw [st]
            by_cases e2 : k = (((u.fn f).nd n).rf 0).toNat
            · simp [e2]
            · simp [e2, h k])
          rw [show n + (m + 1) = n + 1 + m by omega]
          exact ih
      · have mo : madeOk (u.fn f) f (mkF u u.nf) (fndB u (u.fn f) (HH (u.fn f))) n = true := by unfold madeOk; rw [if_neg h37, if_neg h36]
        rw [if_pos h36, mo]
        have st : mk1 u f (mkF u f) (n + 1) = mk1 u f (mkF u f) n := by rw [mk1_step, if_neg (fun h => h36 h.1)]
        have ih := make8_eq o hf m (n + 1) made (by omega) (fun k => by rw [st]; exact h k)
        rw [show n + (m + 1) = n + 1 + m by omega]
        exact ih

theorem find8_eq {u : UD} (o : ∀ f, f < u.nf → Ok8 u f) : ∀ (m f : Nat) (made : Nat → Bool), f + m ≤ u.nf → (∀ k, made k = (mkF u f k).isSome) →
    fltK 8 (ffI (fun f => madeF (u.fn f) f (mkF u u.nf) (fndB u (u.fn f) (HH (u.fn f)))) f m) = fltOf 8 (find8 u made f m).1 ∧
    ((find8 u made f m).1 = none → ∀ k, (find8 u made f m).2 k = (mkF u (f + m) k).isSome)
  | 0, f, made, _, h => ⟨rfl, fun _ => h⟩
  | m + 1, f, made, hf, h => by
    have hm := make8_eq (o f (by omega)) (by omega) (u.fn f).nn 0 made (by omega) h
    rw [ffI, find8]
    have e1 : madeF (u.fn f) f (mkF u u.nf) (fndB u (u.fn f) (HH (u.fn f))) = optI (make8 u f (parE (u.fn f).nd (u.fn f).nn) made 0 (u.fn f).nn).1 := by
      rw [hm.1]; rfl
    rw [e1]
    cases hr : make8 u f (parE (u.fn f).nd (u.fn f).nn) made 0 (u.fn f).nn with
    | mk a b =>
      rw [hr] at hm
      cases a with
      | some n =>
        simp only
        rw [if_neg (by simp only [optI]; omega)]
        exact ⟨rfl, fun h => by cases h⟩
      | none =>
        simp only
        rw [if_pos (show optI none = -1 from rfl)]
        have ih := find8_eq o m (f + 1) b (by omega) (fun k => by
          have := hm.2 rfl k
          simp only [Nat.zero_add] at this
          rw [this]; rfl)
        rw [show f + (m + 1) = f + 1 + m by omega]
        exact ih

def nineF : Option Nat → Option Flt
  | some f => some ⟨9, f, 0⟩
  | none => none
theorem unm_eq (s : MK) : ∀ (m f : Nat), 0 < f → fltK 9 (ffI (unmF s) f m) = nineF (findN (fun f => !(s f).isSome) f m)
  | 0, _, _ => rfl
  | m + 1, f, h0 => by
    rw [ffI, findN]
    have e : unmF s f = if (s f).isSome then -1 else 0 := by unfold unmF; rw [if_neg (by omega)]
    rw [e]
    cases hs : (s f).isSome
    · simp [fltK, nineF]
    · rw [if_pos rfl, if_pos rfl]; exact unm_eq s m (f + 1) (by omega)
end Go.Proofs.YtnokgdgikdgaeaaGreat

namespace Go.Proofs.YtnokgdgikdgaeaaGreat
open Go.RowKit

theorem heads_of {u : UD} (h : ∀ f, f < u.nf → rules1 u 0 f = -1) {f : Nat} (hf : f < u.nf) : headB (u.fn f) f = true := by
  have := h f hf
  unfold rules1 orNone at this
  rw [if_pos rfl, headF_eq] at this
  by_cases e : headB (u.fn f) f = true
  · exact e
  · rw [if_neg e] at this; omega
theorem shapes_of {u : UD} (h : ∀ f, f < u.nf → rules1 u 1 f = -1) {f : Nat} (hf : f < u.nf) {n : Nat} (hn : n < (u.fn f).nn) : shapeB (u.fn f).nd n = true := by
  have := h f hf
  unfold rules1 at this
  rw [if_neg (by decide), if_pos rfl, formF_eq] at this
  have := findN_none (optI_none.1 this) n (Nat.zero_le _) (by omega)
  simpa using this
theorem ok3_of {u : UD} (h0 : ∀ f, f < u.nf → rules1 u 0 f = -1) (h1 : ∀ f, f < u.nf → rules1 u 1 f = -1) {f : Nat} (hf : f < u.nf) : Ok3 (u.fn f) := by
  have hh := heads_of h0 hf
  simp only [headB, headA, Bool.and_eq_true, decide_eq_true_eq] at hh
  exact ⟨hh.1.1.1.1.1.1, fun i hi => shape_kids (shapes_of h1 hf hi)⟩
theorem tree_of {u : UD} (h0 : ∀ f, f < u.nf → rules1 u 0 f = -1) (h1 : ∀ f, f < u.nf → rules1 u 1 f = -1) (h2 : ∀ f, f < u.nf → rules1 u 2 f = -1) {f : Nat} (hf : f < u.nf) : Tree4 (u.fn f) := by
  have ok := ok3_of h0 h1 hf
  refine ⟨ok, ?_⟩
  have := h2 f hf
  unfold rules1 at this
  rw [if_neg (by decide), if_neg (by decide), if_pos rfl, treeF_eq ok] at this
  exact optI_none.1 this

theorem sum_ge (f : Nat → Nat) : ∀ (n i : Nat), i < n → f i ≤ sumTo f n
  | 0, i, h => by omega
  | n + 1, i, h => by
    simp only [sumTo]
    by_cases e : i = n
    · subst e; omega
    · have := sum_ge f n i (by omega); omega
theorem size_of {u : UD} (h : sizeBad u = false) : 0 < u.nf ∧ ∀ f, f < u.nf → (u.fn f).nn ≤ 3000 := by
  unfold sizeBad at h
  simp only [Bool.or_eq_false_iff, decide_eq_false_iff_not, beq_eq_false_iff_ne] at h
  refine ⟨by omega, fun f hf => ?_⟩
  have : (u.fn f).nn ≤ sumTo (fun i => (u.fn i).nn) u.nf := sum_ge (fun i => (u.fn i).nn) u.nf f hf
  have h2 := h.2
  omega

theorem facts_all {u : UD} (hr : ∀ f, f < u.nf → ∀ n, n < (u.fn f).nn → ((u.fn f).nd n).nr ≤ 1048576) (hs : sizeBad u = false) (h : ffK code1 (rules1 u) u.nf 0 4 = none) : ∀ f, f < u.nf → Facts (u.fn f) (HH (u.fn f)) (LL (u.fn f)) ∧ ∀ n, n < (u.fn f).nn → ((u.fn f).nd n).kind = 27 → ((u.fn f).nd n).nr = 1 := by
  intro f hf
  have h0 := ffK_none h 0 (by omega) (by omega)
  have h1 := ffK_none h 1 (by omega) (by omega)
  have h2 := ffK_none h 2 (by omega) (by omega)
  exact ⟨facts_of (heads_of h0 hf) (fun n hn => shapes_of h1 hf hn) (tree_of h0 h1 h2 hf).no4 ((size_of hs).2 f hf) (hr f hf), fun n hn hk => one_ref (shapes_of h1 hf hn) (by omega)⟩

theorem ffK4 (code : Nat → Int) (r : Nat → Nat → Int) (nf : Nat) : ffK code r nf 0 4 = match fltK (code 0) (ffI (r 0) 0 nf) with | some x => some x | none => match fltK (code 1) (ffI (r 1) 0 nf) with | some x => some x | none => match fltK (code 2) (ffI (r 2) 0 nf) with | some x => some x | none => match fltK (code 3) (ffI (r 3) 0 nf) with | some x => some x | none => none := rfl
theorem fltK_none {c : Int} {o : Option (Nat × Int)} (h : fltK c o = none) : o = none := by
  cases o with
  | none => rfl
  | some x => cases h
theorem none_all {c : Int} {r : Nat → Int} {nf : Nat} (h : fltK c (ffI r 0 nf) = none) : ∀ f, f < nf → r f = -1 := fun f hf => ffI_none (fltK_none h) f (Nat.zero_le _) (by omega)

theorem impl_spec {u : UD} : implB u (fun f => HH (u.fn f)) (fun f => LL (u.fn f)) = specB u := by
  unfold implB specB firstB
  cases hs : sizeBad u
  · simp only [Bool.false_eq_true, if_false]
    rw [ffK4]
    have E2 : fltK (code1 0) (ffI (rules1 u 0) 0 u.nf) = fltOf 2 (headsBad u) := by
      unfold headsBad
      refine ffI_eq (fun j _ _ => ?_) 2
      unfold rules1 orNone
      rw [if_pos rfl, headF_eq]
      by_cases e : headB (u.fn j) j = true
      · rw [if_pos e, if_pos e]; rfl
      · rw [if_neg e, if_neg e]; rfl
    rw [E2]
    cases h2 : fltOf 2 (headsBad u) with
    | some x => rfl
    | none =>
      rw [h2] at E2
      have a0 := none_all E2
      have E3 : fltK (code1 1) (ffI (rules1 u 1) 0 u.nf) = fltOf 3 (shapesBad u) := by
        unfold shapesBad
        refine ffI_eq (fun j _ _ => ?_) 3
        unfold rules1
        rw [if_neg (by decide), if_pos rfl, formF_eq]
      simp only
      rw [E3]
      cases h3 : fltOf 3 (shapesBad u) with
      | some x => rfl
      | none =>
        rw [h3] at E3
        have a1 := none_all E3
        simp only
        unfold secondB
        have E4 : fltK (code1 2) (ffI (rules1 u 2) 0 u.nf) = fltOf 4 (findF (fun f => findN (bad4 (u.fn f)) 0 (u.fn f).nn) 0 u.nf) := by
          refine ffI_eq (fun j _ hj => ?_) 4
          unfold rules1
          rw [if_neg (by decide), if_neg (by decide), if_pos rfl, treeF_eq (ok3_of a0 a1 (by omega))]
        rw [E4]
        cases h4 : fltOf 4 (findF (fun f => findN (bad4 (u.fn f)) 0 (u.fn f).nn) 0 u.nf) with
        | some x => rfl
        | none =>
          rw [h4] at E4
          have a2 := none_all E4
          have T : ∀ f, f < u.nf → Tree4 (u.fn f) := fun f hf => tree_of a0 a1 a2 hf
          have E5 : fltK (code1 3) (ffI (rules1 u 3) 0 u.nf) = fltOf 5 (findF (fun f => findN (bad5 (u.fn f)) 0 (u.fn f).nn) 0 u.nf) := by
            refine ffI_eq (fun j _ hj => ?_) 5
            unfold rules1
            rw [if_neg (by decide), if_neg (by decide), if_neg (by decide), deepF_eq (T j (by omega))]
          simp only
          rw [E5]
          cases h5 : fltOf 5 (findF (fun f => findN (bad5 (u.fn f)) 0 (u.fn f).nn) 0 u.nf) with
          | some x => rfl
          | none =>
            simp only
            rw [ffK4]
            unfold thirdB
            have E6 : fltK (code2 0) (ffI (rules2 u (fun f => HH (u.fn f)) (fun f => LL (u.fn f)) 0) 0 u.nf) = fltOf 6 (findF (bad6 u) 0 u.nf) := by
              refine ffI_eq (fun j _ hj => ?_) 6
              unfold rules2
              rw [if_pos rfl, refsF_eq (T j (by omega)) (fun n hn => shapes_of a1 (by omega) hn)]
            rw [E6]
            cases h6 : fltOf 6 (findF (bad6 u) 0 u.nf) with
            | some x => rfl
            | none =>
              rw [h6] at E6
              have a6 := none_all E6
              have O : ∀ f, f < u.nf → Ok8 u f := fun f hf => ⟨T f hf, fun n hn hk => by
                have := a6 f hf
                unfold rules2 at this
                rw [if_pos rfl] at this
                exact six_in this hn hk⟩
              have E7 : fltK (code2 1) (ffI (rules2 u (fun f => HH (u.fn f)) (fun f => LL (u.fn f)) 1) 0 u.nf) = fltOf 7 (findF (fun f => findN (bad7 (u.fn f)) 0 (u.fn f).nn) 0 u.nf) := by
                refine ffI_eq (fun j _ hj => ?_) 7
                unfold rules2
                rw [if_neg (by decide), if_pos rfl, jumpF_eq (T j (by omega))]
              simp only
              rw [E7]
              cases h7 : fltOf 7 (findF (fun f => findN (bad7 (u.fn f)) 0 (u.fn f).nn) 0 u.nf) with
              | some x => rfl
              | none =>
                simp only
                obtain ⟨e8, k8⟩ := find8_eq O u.nf 0 (fun _ => false) (by omega) (fun k => rfl)
                have E8 : fltK (code2 2) (ffI (rules2 u (fun f => HH (u.fn f)) (fun f => LL (u.fn f)) 2) 0 u.nf) = fltOf 8 (find8 u (fun _ => false) 0 u.nf).1 := e8
                rw [E8]
                cases h8 : find8 u (fun _ => false) 0 u.nf with
                | mk a md =>
                  rw [h8] at k8
                  cases a with
                  | some x => rfl
                  | none =>
                    have hm : ∀ k, md k = (mkF u u.nf k).isSome := fun k => by
                      have := k8 rfl k
                      rw [Nat.zero_add] at this; exact this
                    simp only [fltOf]
                    have hp := (size_of hs).1
                    have E9 : fltK (code2 3) (ffI (rules2 u (fun f => HH (u.fn f)) (fun f => LL (u.fn f)) 3) 0 u.nf) = nineF (findN (fun f => !md f) 1 (u.nf - 1)) := by
                      have e1 : ffI (rules2 u (fun f => HH (u.fn f)) (fun f => LL (u.fn f)) 3) 0 u.nf = ffI (unmF (mkF u u.nf)) 1 (u.nf - 1) := by
                        obtain ⟨m, hm'⟩ : ∃ m, u.nf = m + 1 := ⟨u.nf - 1, by omega⟩
                        have e2 : rules2 u (fun f => HH (u.fn f)) (fun f => LL (u.fn f)) 3 = unmF (mkF u u.nf) := rfl
                        rw [e2]
                        generalize mkF u u.nf = s
                        rw [hm', ffI, if_pos (show unmF s 0 = -1 from rfl)]
                        rfl
                      rw [e1, show code2 3 = 9 from rfl, unm_eq _ _ _ (by omega)]
                      rw [findN_congr (q := fun f => !md f) fun j _ _ => by rw [hm j]]
                    rw [E9]
                    cases findN (fun f => !md f) 1 (u.nf - 1) <;> rfl
  · rfl
end Go.Proofs.YtnokgdgikdgaeaaGreat

namespace Go.Proofs.YtnokgdgikdgaeaaGreat
open Go.RowKit
attribute [local go_sem] run_store_float

set_option maxRecDepth 100000 in
set_option maxHeartbeats 4000000 in
theorem formsOf_sep (u : UM) (w : World) (hn : u.nf ≤ 1048576) (hs : ∀ f, f < u.nf → (u.fm f).Small ∧ (u.fm f).nn ≤ (u.fm f).nc) (ha : u.At w) :
    Calls Tryz.prog 16 #[.slice u.fa u.nf u.fc] w fun e w' => ∃ ab fb, e = .returned (.slice (some ⟨ab, 0, none⟩) u.nf u.nf) ∧ Onw w w' ∧ FormsAll w' ab u.nf fb u.fm ∧ w.heap.size ≤ ab ∧ ∀ f, f < u.nf → w.heap.size ≤ fb f ∧ FormsAt w' w.heap.size (fb f) (u.fm f).nn (u.fm f).nm := by
  obtain ⟨nf, fm, ua, uc⟩ := u
  simp only at *
  have HS : Hid _ := hs
  have HA : Hid _ := ha
  clear hs ha
  have hmk := run_make_formss nf hn
  go_enter Tryz.func16, Tryz.ntmps16
  go_wp2_with fail
  clear hmk
  go_loopw [12] (fun i wr => ∃ (k : Nat) (fb : Nat → Nat) (cur : Array Value), k ≤ nf ∧ i = .int .i64 k ∧ Onw w wr ∧ Blk wr w.heap.size 77 cur ∧ cur.size = nf ∧ ∀ f, f < k → cur[f]? = some (.slice (some ⟨fb f, 0, none⟩) (fm f).nn (fm f).nn) ∧ w.heap.size + 1 ≤ fb f ∧ FormsAt wr (w.heap.size + 1) (fb f) (fm f).nn (fm f).nm) (fun i _ => nf - (intOf i).toNat)
  case atStart => exact ⟨0, fun _ => 0, _, Nat.zero_le _, rfl, Onw.alloc _ _, Blk.new _ _ _, size_madeCells _ _, fun f hf => absurd hf (Nat.not_lt_zero _)⟩
  case round =>
    obtain ⟨k, fb, cur, hk, rfl, ob, B, hz, hF⟩ := hrel
    obtain ⟨w0, hw0⟩ : ∃ x, x = wr := ⟨_, rfl⟩
    subst hw0
    have HF : Hid _ := hF
    clear hF
    by_cases hlt : k < nf
    · have hA := FnsAt.onw ob HA.out
      obtain ⟨b, off, rfl, hc⟩ := hA.1 (by omega)
      obtain ⟨c0, c1, c2, c3, c4, c5, c6⟩ := hc k hlt
      have zb := cell_lt c0
      have hmk := run_make_forms (fm k).nn (HS.out k hlt).1.2.2.1
      clear hc
      have fs := B.free
      have zB := B.lt
      obtain ⟨x0, g0⟩ := B.some (j := k) (by rw [hz]; exact hlt)
      go_wp2_with fail
      clear hmk c0 c1 c2 c3 c4 c5 c6
      go_loopw [27] (fun j wr => ∃ (i : Nat) (cur2 : Array Value), i ≤ (fm k).nn ∧ j = .int .i64 i ∧ Onw w wr ∧ Blk wr w.heap.size 77 (cur.setIfInBounds k (.slice (some ⟨w0.heap.size + 1, 0, none⟩) (fm k).nn (fm k).nn)) ∧ Blk wr w0.heap.size 61 #[.string (fm k).name, .int .i64 (fm k).line, .int .i64 (fm k).params, .bool (fm k).rest, .slice (fm k).va (fm k).nv (fm k).vc, .slice (fm k).ua (fm k).nu (fm k).uc, .slice (fm k).na (fm k).nn (fm k).nc] ∧ Blk wr (w0.heap.size + 1) 79 cur2 ∧ cur2.size = (fm k).nn ∧ Kept (fun x => x < w0.heap.size ∧ w.heap.size + 1 ≤ x) w0 wr ∧ ∀ x, x < i → ∃ v, cur2[x]? = some v ∧ FormIs wr (w0.heap.size + 2) (fm k).nm x v) (fun j _ => (fm k).nn - (intOf j).toNat)
      case atStart =>
        have B' := B.set k (.slice (some ⟨w0.heap.size + 1, 0, none⟩) (fm k).nn (fm k).nn)
        have O0 : Onw w (w0.setCell ⟨w.heap.size, k, none⟩ (.slice (some ⟨w0.heap.size + 1, 0, none⟩) (fm k).nn (fm k).nn)) := below_set ob (Nat.le_refl _) _
        have O2 := (Onw.alloc (w0.setCell ⟨w.heap.size, k, none⟩ (.slice (some ⟨w0.heap.size + 1, 0, none⟩) (fm k).nn (fm k).nn)) (Obj.cells #[.string (fm k).name, .int .i64 (fm k).line, .int .i64 (fm k).params, .bool (fm k).rest, .slice (fm k).va (fm k).nv (fm k).vc, .slice (fm k).ua (fm k).nu (fm k).uc, .slice (fm k).na (fm k).nn (fm k).nc] 61)).trans (Onw.alloc _ (Obj.cells (madeCells #[.nilIface] (fm k).nn) 79))
        have F1 := (Blk.new (w0.setCell ⟨w.heap.size, k, none⟩ (.slice (some ⟨w0.heap.size + 1, 0, none⟩) (fm k).nn (fm k).nn)) 61 #[.string (fm k).name, .int .i64 (fm k).line, .int .i64 (fm k).params, .bool (fm k).rest, .slice (fm k).va (fm k).nv (fm k).vc, .slice (fm k).ua (fm k).nu (fm k).uc, .slice (fm k).na (fm k).nn (fm k).nc]).onw (Onw.alloc _ (Obj.cells (madeCells #[.nilIface] (fm k).nn) 79))
        have F2 := Blk.new ((w0.setCell ⟨w.heap.size, k, none⟩ (.slice (some ⟨w0.heap.size + 1, 0, none⟩) (fm k).nn (fm k).nn)).alloc (Obj.cells #[.string (fm k).name, .int .i64 (fm k).line, .int .i64 (fm k).params, .bool (fm k).rest, .slice (fm k).va (fm k).nv (fm k).vc, .slice (fm k).ua (fm k).nu (fm k).uc, .slice (fm k).na (fm k).nn (fm k).nc] 61)) 79 (madeCells #[.nilIface] (fm k).nn)
        simp only [World.size_alloc, World.size_setCell] at F1 F2
        refine ⟨0, _, Nat.zero_le _, rfl, O0.trans O2, B'.onw O2, F1, F2, size_madeCells _ _, ?_, fun x hx => absurd hx (Nat.not_lt_zero _)⟩
        refine Kept.trans (Kept.set (Kept.refl _ w0) (by omega) _) (kept_onw O2 fun x hx => by simp only [World.size_setCell]; exact hx.1)
      case round =>
        clear B fs g0
        have ne1 : w.heap.size ≠ w0.heap.size + 1 := by omega
        have ne2 : w0.heap.size + 1 ≠ w.heap.size := by omega
        obtain ⟨i, cur2, hi, rfl, ob2, B, F1, F2, hz2, hK, hG⟩ := hrel
        have HG : Hid _ := hG
        have HK : Hid _ := hK
        clear hG hK
        by_cases hit : i < (fm k).nn
        · have g1 : wr.cell? ⟨w.heap.size, k, none⟩ = some (.slice (some ⟨w0.heap.size + 1, 0, none⟩) (fm k).nn (fm k).nn) := by rw [B.cell]; simp [hz, hlt]
          have g2 : wr.cell? ⟨w0.heap.size, 6, none⟩ = some (.slice (fm k).na (fm k).nn (fm k).nc) := by rw [F1.cell]; rfl
          have fs := F2.free
          obtain ⟨x0, g3⟩ := F2.some (j := i) (by rw [hz2]; exact hit)
          have aN := ((HA.out.onw ob2).2 k hlt).2.2
          have hs := (HS.out k hlt)
          have s1 := hs.1.2.2.1
          have s2 := hs.2
          have s3 := (hs.1.2.2.2 i hit).2
          clear hs
          go_wp2_with fail
          go_region_held3 (fun w' => w'.cell? ⟨w.heap.size, k, none⟩ = some (.slice (some ⟨w0.heap.size + 1, 0, none⟩) (fm k).nn (fm k).nn) ∧ w'.cell? ⟨w0.heap.size, 6, none⟩ = some (.slice (fm k).na (fm k).nn (fm k).nc)) (go_keep)
            (first | (go_at_call 38; refine (formOf_all _ _ _ (fm k).nm i _ hit s1 s2 s3 (by first | exact aN | exact aN.onw (Below.drew (Onw.refl _)))).mono ?_; rintro e w1 ⟨v, rfl, hb1, kk, rfl, hI1, hf1⟩; have O1 : Onw wr w1 := Onw.trans (Below.drew (Onw.refl _)) hb1; have q1 := cell_onw O1 g1; have q2 := cell_onw O1 g2; have q3 := cell_onw O1 g3; have fs1 := (F2.onw O1).free))
          go_wp2_with fail
          go_roundw
          case rel =>
            refine ⟨i + 1, _, by omega, by go_num, below_set (ob2.trans O1) (by omega) _, (B.onw O1).kept (p := (· ≠ w0.heap.size + 1)) (Kept.set (Kept.refl _ _) (by simp) _) ne1, (F1.onw O1).kept (p := (· ≠ w0.heap.size + 1)) (Kept.set (Kept.refl _ _) (by simp) _) (by simp), (F2.onw O1).set i _, by simp [hz2], ?_, fun x hx => ?_⟩
            · refine Kept.set (Kept.trans (show Kept (fun x => x < w0.heap.size ∧ w.heap.size + 1 ≤ x) w0 wr from HK.out) (kept_onw O1 fun x hx => ?_)) (by omega) _
              have := F2.lt; have := hx.1; omega
            · by_cases e : x = i
              · subst e
                refine ⟨_, by simp [hz2, hit], kk, rfl, hI1.kept (p := (· ≠ w0.heap.size + 1)) (Kept.set (Kept.refl _ _) (by simp) _) ?_, ?_⟩
                · intro y hy
                  have h1 := hf1 y hy; have h2 := F2.lt
                  have h3 : wr.heap.size ≤ y.block := h1
                  omega
                · refine hf1.mono ?_
                  show w0.heap.size + 2 ≤ wr.heap.size
                  have := F2.lt; omega
              · obtain ⟨v, h1, h2⟩ := HG.out x (by omega)
                refine ⟨v, ?_, (h2.onw O1).kept (p := (· ≠ w0.heap.size + 1)) (Kept.set (Kept.refl _ _) (by simp) _) (fun y hy => by omega)⟩
                rw [Array.getElem?_setIfInBounds, if_neg (fun h => e h.symm)]; exact h1
          case measure => simp [intOf]; omega
        · have : i = (fm k).nn := by omega
          go_wp2_with fail
          go_roundw
          case rel =>
            refine ⟨k + 1, fun f => if f = k then w0.heap.size + 1 else fb f, _, by omega, by go_num, ob2, B, by simp [hz], fun f hf => ?_⟩
            by_cases e : f = k
            · subst e
              simp only [if_true]
              refine ⟨by simp [hz, hlt], by omega, fun x hx => ?_⟩
              obtain ⟨v, h1, h2⟩ := HG.out x (by omega)
              exact ⟨v, by rw [F2.cell]; exact h1, h2.low (by omega)⟩
            · simp only [if_neg e]
              obtain ⟨h1, h2, h3⟩ := HF.out f (by omega)
              refine ⟨?_, h2, h3.keptIn HK.out h2⟩
              rw [Array.getElem?_setIfInBounds, if_neg (fun h => e h.symm)]; exact h1
          case measure => simp [intOf]; omega
    · have : k = nf := by omega
      subst this
      go_wp2_with fail
      go_ret
      exact ⟨_, fb, rfl, ob, fun f hf => ⟨by rw [B.cell]; exact (HF.out f hf).1, ((HF.out f hf).2.2).low (Nat.zero_le _)⟩, Nat.le_refl _, fun f hf => ⟨by have := (HF.out f hf).2.1; omega, ((HF.out f hf).2.2).low (by omega)⟩⟩

/-- What lies behind lo stays where one block before it turns. -/
theorem FormsAll.kept {w w' : World} {lo cb ab nf : Nat} {fb : Nat → Nat} {fm : Nat → FM} (hk : Kept (· ≠ cb) w w') (hc : cb < lo) (hF : FormsAll w ab nf fb fm) (h1 : lo ≤ ab) (h2 : ∀ f, f < nf → lo ≤ fb f ∧ FormsAt w lo (fb f) (fm f).nn (fm f).nm) : FormsAll w' ab nf fb fm := fun f hf =>
  ⟨(hk.cell (show ab ≠ cb by omega)).trans (hF f hf).1, ((h2 f hf).2.kept hk (show fb f ≠ cb by have := (h2 f hf).1; omega) (fun k hk' => show k ≠ cb by omega)).low (Nat.zero_le _)⟩
theorem FormsAll.keptAll {w w' : World} {ab nf : Nat} {fb : Nat → Nat} {fm : Nat → FM} (hk : Kept (fun x => x < w.heap.size) w w') (hF : FormsAll w ab nf fb fm) : FormsAll w' ab nf fb fm := fun f hf =>
  ⟨(hk.cell (cell_lt (hF f hf).1)).trans (hF f hf).1, (hF f hf).2.keptIn (lo := 0) (fun x hx => hk x hx.1) (Nat.zero_le _)⟩
theorem FormsAll.keptOff {w w' : World} {lo cb ab nf : Nat} {fb : Nat → Nat} {fm : Nat → FM} (hk : Kept (fun x => x < w.heap.size ∧ x ≠ cb) w w') (hc : cb < lo) (hF : FormsAll w ab nf fb fm) (h1 : lo ≤ ab) (h2 : ∀ f, f < nf → lo ≤ fb f ∧ FormsAt w lo (fb f) (fm f).nn (fm f).nm) : FormsAll w' ab nf fb fm := fun f hf =>
  ⟨(hk.cell ⟨cell_lt (hF f hf).1, by omega⟩).trans (hF f hf).1, ((h2 f hf).2.keptIn (fun x hx => hk x ⟨hx.1, by have := hx.2; omega⟩) (h2 f hf).1).low (Nat.zero_le _)⟩
end Go.Proofs.YtnokgdgikdgaeaaGreat
