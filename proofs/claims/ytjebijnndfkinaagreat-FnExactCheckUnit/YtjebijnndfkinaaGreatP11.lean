import Derived.Test.YtjebijnndfkinaaGreatP04
import Derived.Test.YtjebijnndfkinaaGreatP10
namespace Go.Proofs.YtjebijnndfkinaaGreat
open Go.RowKit

/-- How often x is among the first k of vs. -/
def cntV (nv : Nat) (vs : Nat → Int) : Nat → Nat → Int
  | 0, _ => 0
  | k + 1, x => cntV nv vs k x + (if (x : Int) = vs k ∧ x < nv then 1 else 0)
theorem cntV_le (nv : Nat) (vs : Nat → Int) : ∀ k x, 0 ≤ cntV nv vs k x ∧ cntV nv vs k x ≤ k
  | 0, _ => by simp [cntV]
  | k + 1, x => by have := cntV_le nv vs k x; simp only [cntV]; split <;> omega
theorem holdF_up (nv : Nat) (h : Nat → Int) (vs : Nat → Int) : ∀ k x, holdF nv h vs 1 k x = h x + cntV nv vs k x
  | 0, x => by simp [holdF, cntV]
  | k + 1, x => by
    simp only [holdF, cntV, holdF_up nv h vs k x]
    split <;> omega
theorem holdF_down (nv : Nat) (h : Nat → Int) (vs : Nat → Int) : ∀ k x, holdF nv h vs (-1) k x = h x - cntV nv vs k x
  | 0, x => by simp [holdF, cntV]
  | k + 1, x => by
    simp only [holdF, cntV, holdF_down nv h vs k x]
    split <;> omega

/-- What the lets among the first j kids of node p declare. -/
def letS (nv : Nat) (nd : Nat → ND) (p : Nat) : Nat → Nat → Int
  | 0, _ => 0
  | j + 1, x => letS nv nd p j x + (if (nd ((nd p).kd j).toNat).kind = 2 then cntV nv (nd ((nd p).kd j).toNat).rf (nd ((nd p).kd j).toNat).nr x else 0)

/-- An array of sights. -/
def SArr (c : Array Value) (n : Nat) (a b : Nat → Bool) : Prop := c.size = n * 2 ∧ ∀ k, k < n → c[k * 2]? = some (.bool (a k)) ∧ c[k * 2 + 1]? = some (.bool (b k))
theorem SArr.set0 {c : Array Value} {n : Nat} {a b : Nat → Bool} (h : SArr c n a b) (i : Nat) (v : Bool) : SArr (c.setIfInBounds (i * 2) (.bool v)) n (fun k => if k = i then v else a k) b := by
  refine ⟨by simpa using h.1, fun k hk => ⟨?_, ?_⟩⟩
  · by_cases e : k = i
    · subst e; simp [h.1, hk]
    · simp only [if_neg e]
      rw [Array.getElem?_setIfInBounds, if_neg (by omega)]; exact (h.2 k hk).1
  · rw [Array.getElem?_setIfInBounds, if_neg (by omega)]; exact (h.2 k hk).2
theorem SArr.set1 {c : Array Value} {n : Nat} {a b : Nat → Bool} (h : SArr c n a b) (i : Nat) (v : Bool) : SArr (c.setIfInBounds (i * 2 + 1) (.bool v)) n a (fun k => if k = i then v else b k) := by
  refine ⟨by simpa using h.1, fun k hk => ⟨?_, ?_⟩⟩
  · rw [Array.getElem?_setIfInBounds, if_neg (by omega)]; exact (h.2 k hk).1
  · by_cases e : k = i
    · subst e; simp only [if_true]; rw [Array.getElem?_setIfInBounds, if_pos rfl, if_pos (by rw [h.1]; omega)]
    · simp only [if_neg e]
      rw [Array.getElem?_setIfInBounds, if_neg (by omega)]; exact (h.2 k hk).2
theorem SArr.congr {c : Array Value} {n : Nat} {a b a' b' : Nat → Bool} (h : SArr c n a b) (ha : ∀ k, k < n → a' k = a k) (hb : ∀ k, k < n → b' k = b k) : SArr c n a' b' :=
  ⟨h.1, fun k hk => by rw [ha k hk, hb k hk]; exact h.2 k hk⟩
theorem Arr.congr {c : Array Value} {n : Nat} {f g : Nat → Int} (h : Arr c n f) (e : ∀ k, k < n → g k = f k) : Arr c n g := ⟨h.1, fun k hk => by rw [e k hk]; exact h.2 k hk⟩

/-- What a walk through one fn stands on. -/
structure Ctx where
  u : UM
  m : FM
  w0 : World
  wb : Nat
  hb : Nat
  sb : Nat
  fb : Nat
  H : Nat → Nat → Int
  L : Nat → Int

def loopK (k : Int) : Bool := k == 6 || k == 7 || k == 8
def headK (k : Int) : Bool := k == 7 || k == 8 || k == 12

structure Ctx.Ok (c : Ctx) : Prop where
  hn : c.u.nf ≤ 1048576
  hu : ∀ f, f < c.u.nf → (c.u.fm f).nu ≤ 1048576
  hua : c.u.At c.w0
  hma : c.m.At c.w0
  hsm : c.m.Small
  hF : FormsAt c.w0 0 c.fb c.m.nn c.m.nm
  zwb : c.w0.heap.size ≤ c.wb
  zhb : c.w0.heap.size ≤ c.hb
  zsb : c.w0.heap.size ≤ c.sb
  ne1 : c.wb ≠ c.hb
  ne2 : c.wb ≠ c.sb
  ne3 : c.hb ≠ c.sb
  nk : ∀ n, n < c.m.nn → (c.m.nm n).nk ≤ 200
  kc : ∀ n, n < c.m.nn → (c.m.nm n).nk ≤ (c.m.nm n).kc
  kids : ∀ n, n < c.m.nn → ∀ j, j < (c.m.nm n).nk → 0 ≤ (c.m.nm n).kd j ∧ (c.m.nm n).kd j < n
  k2 : ∀ n, n < c.m.nn → (c.m.nm n).kind = 6 ∨ (c.m.nm n).kind = 8 ∨ (c.m.nm n).kind = 12 → (c.m.nm n).nk = 2
  k4 : ∀ n, n < c.m.nn → (c.m.nm n).kind = 7 → (c.m.nm n).nk = 4
  r1 : ∀ n, n < c.m.nn → (c.m.nm n).kind = 26 ∨ (c.m.nm n).kind = 36 → (c.m.nm n).nr = 1 ∧ (c.m.nm n).nk = 0
  hL : ∀ n, n < c.m.nn → 0 ≤ c.L n ∧ c.L n ≤ 1048576
  hH : ∀ n, n < c.m.nn → ∀ v, 0 ≤ c.H n v ∧ c.H n v ≤ 1000000000000
  eL : ∀ n, n < c.m.nn → ∀ j, j < (c.m.nm n).nk → c.L ((c.m.nm n).kd j).toNat = c.L n + (if loopK (c.m.nm n).kind = true ∧ j + 1 = (c.m.nm n).nk then 1 else 0)
  eH : ∀ n, n < c.m.nn → ∀ j, j < (c.m.nm n).nk → ∀ v, v < c.m.nv → c.H ((c.m.nm n).kd j).toNat v = c.H n v + (if (c.m.nm n).kind = 1 then letS c.m.nv (ndOf c.m.nm) n j v else if headK (c.m.nm n).kind = true ∧ j + 1 = (c.m.nm n).nk then cntV c.m.nv (c.m.nm n).rf (c.m.nm n).nr v else 0)

def Ctx.inL (c : Ctx) (n : Nat) : Bool := decide (0 < c.L n)
def Ctx.fnd (c : Ctx) (n : Nat) : Bool := if (c.m.nm n).kind = 26 then scopeB c.m.nv (c.H n) ((c.m.nm n).rf 0) else if (c.m.nm n).kind = 36 then findsB c.u.toUD c.m.nv (c.H n) c.m.nu ((c.m.nm n).rf 0) else false

/-- The walker's memory. -/
structure Ctx.St (c : Ctx) (w : World) (l : Int) (h : Nat → Int) (a b : Nat → Bool) : Prop where
  o : Onw c.w0 w
  W : WalkAt w c.wb (.slice c.u.fa c.u.nf c.u.fc) (.slice (some ⟨c.fb, 0, none⟩) c.m.nn c.m.nn) c.m.nu c.hb c.m.nv l c.sb c.m.nn
  H : ∃ cur, Blk w c.hb 3 cur ∧ Arr cur c.m.nv h
  S : ∃ sc, Blk w c.sb 104 sc ∧ SArr sc c.m.nn a b
def Ctx.Std (c : Ctx) (w : World) (l : Int) (h : Nat → Int) (dn : Nat → Bool) : Prop := c.St w l h (fun n => dn n && c.inL n) (fun n => dn n && c.fnd n)
theorem Ctx.St.congr {c : Ctx} {w : World} {l : Int} {h h' : Nat → Int} {a b a' b' : Nat → Bool} (s : c.St w l h a b) (e : ∀ v, v < c.m.nv → h' v = h v) (ea : ∀ k, k < c.m.nn → a' k = a k) (eb : ∀ k, k < c.m.nn → b' k = b k) : c.St w l h' a' b' := by
  obtain ⟨o, W, ⟨cur, B, A⟩, sc, B2, S⟩ := s
  exact ⟨o, W, ⟨cur, B, A.congr e⟩, sc, B2, S.congr ea eb⟩
theorem Ctx.St.hs {c : Ctx} {w : World} {l : Int} {h h' : Nat → Int} {a b : Nat → Bool} (s : c.St w l h a b) (e : ∀ v, v < c.m.nv → h' v = h v) : c.St w l h' a b := s.congr e (fun _ _ => rfl) (fun _ _ => rfl)

theorem Ctx.St.onw {c : Ctx} {w w' : World} {l : Int} {h : Nat → Int} {a b : Nat → Bool} (s : c.St w l h a b) (k : Onw w w') : c.St w' l h a b := by
  obtain ⟨o, W, ⟨cur, B, A⟩, sc, B2, S⟩ := s
  exact ⟨o.trans k, ⟨W.blk.onw k⟩, ⟨cur, B.onw k, A⟩, sc, B2.onw k, S⟩

/-- Only the walker's own three blocks turn. -/
structure Ctx.Keep (c : Ctx) (w w' : World) : Prop where
  size : w.heap.size ≤ w'.heap.size
  kept : Kept (fun k => k < w.heap.size ∧ k ≠ c.wb ∧ k ≠ c.hb ∧ k ≠ c.sb) w w'
theorem Ctx.Keep.refl (c : Ctx) (w : World) : c.Keep w w := ⟨Nat.le_refl _, Kept.refl _ _⟩
theorem Ctx.Keep.trans {c : Ctx} {a b d : World} (h : c.Keep a b) (k : c.Keep b d) : c.Keep a d :=
  ⟨Nat.le_trans h.size k.size, fun x hx => (k.kept x ⟨Nat.lt_of_lt_of_le hx.1 h.size, hx.2⟩).trans (h.kept x hx)⟩
theorem Ctx.Keep.blk {c : Ctx} {a b : World} (h : c.Keep a b) {g : Nat} {e : TypeId} {cur : Array Value} (n1 : g ≠ c.wb) (n2 : g ≠ c.hb) (n3 : g ≠ c.sb) (B : Blk a g e cur) : Blk b g e cur := (h.kept g ⟨B.lt, n1, n2, n3⟩).trans B
theorem Ctx.Keep.onw {c : Ctx} {a b : World} (h : Onw a b) : c.Keep a b := ⟨h.size, kept_onw h fun _ hx => hx.1⟩

/-- Nodes that have been seen, and all below those that are new. -/
structure Ctx.Grow (c : Ctx) (dn dn' : Nat → Bool) : Prop where
  mono : ∀ n, dn n = true → dn' n = true
  shut : ∀ n, n < c.m.nn → dn' n = true → dn n = true ∨ ∀ j, j < (c.m.nm n).nk → dn' ((c.m.nm n).kd j).toNat = true
theorem Ctx.Grow.refl (c : Ctx) (dn : Nat → Bool) : c.Grow dn dn := ⟨fun _ h => h, fun _ _ h => Or.inl h⟩
theorem Ctx.Grow.trans {c : Ctx} {a b d : Nat → Bool} (h : c.Grow a b) (k : c.Grow b d) : c.Grow a d :=
  ⟨fun n hn => k.mono n (h.mono n hn), fun n hl hn => by
    rcases k.shut n hl hn with h1 | h1
    · rcases h.shut n hl h1 with h2 | h2
      · exact Or.inl h2
      · exact Or.inr fun j hj => k.mono _ (h2 j hj)
    · exact Or.inr h1⟩

def Ctx.VisitOk (c : Ctx) (p : Nat) : Prop := ∀ (w : World) (dn : Nat → Bool), c.Std w (c.L p) (c.H p) dn →
  Calls Tryz.prog 42 #[.pointer (some ⟨c.wb, 0, none⟩), .int .i64 p] w fun e w' => ∃ dn', e = .returned (.tuple #[]) ∧ c.Std w' (c.L p) (c.H p) dn' ∧ c.Keep w w' ∧ c.Grow dn dn' ∧ dn' p = true

end Go.Proofs.YtjebijnndfkinaaGreat

namespace Go.Proofs.YtjebijnndfkinaaGreat
open Go.RowKit

set_option maxHeartbeats 1000000 in
theorem visitAll_any (c : Ctx) (va : Option Addr) (n vc : Nat) (vs : Nat → Int) (l : Int) (h : Nat → Int) (w : World) (dn : Nat → Bool) (hn : n ≤ 1048576) (hI : IntsAt c.w0 va n vs)
    (hv : ∀ j, j < n → ∃ q : Nat, vs j = q ∧ c.VisitOk q ∧ c.L q = l ∧ ∀ v, v < c.m.nv → c.H q v = h v) (S : c.Std w l h dn) :
    Calls Tryz.prog 63 #[.pointer (some ⟨c.wb, 0, none⟩), .slice va n vc] w fun e w' => ∃ dn', e = .returned (.tuple #[]) ∧ c.Std w' l h dn' ∧ c.Keep w w' ∧ c.Grow dn dn' ∧ ∀ j, j < n → dn' (vs j).toNat = true := by
  have HV : Hid _ := hv
  clear hv
  go_enter Tryz.func63, Tryz.ntmps63
  go_wp2_with fail
  go_loopw [8] (fun i wr => ∃ (k : Nat) (dk : Nat → Bool), k ≤ n ∧ i = .int .i64 k ∧ c.Std wr l h dk ∧ c.Keep w wr ∧ c.Grow dn dk ∧ ∀ j, j < k → dk (vs j).toNat = true) (fun i _ => n - (intOf i).toNat)
  case atStart => exact ⟨0, dn, Nat.zero_le _, rfl, S, Ctx.Keep.refl _ _, Ctx.Grow.refl _ _, fun j hj => absurd hj (Nat.not_lt_zero _)⟩
  case round =>
    clear S
    obtain ⟨k, dk, hk, rfl, S, K, G, hd⟩ := hrel
    have HD : Hid _ := hd
    clear hd
    by_cases hlt : k < n
    · obtain ⟨b, off, rfl, hc⟩ := hI.onw S.o (by omega)
      have hck := hc k hlt
      obtain ⟨q, hq, hV, hl, hh⟩ := HV.out k hlt
      have HQ : Hid _ := hq
      rw [hq] at hck
      clear hc hq
      go_wp2_with fail
      refine (hV _ dk (by rw [hl]; exact Ctx.St.hs S hh)).mono ?_
      rintro e w1 ⟨d1, rfl, S1, K1, G1, h1⟩
      go_wp2_with fail
      go_roundw
      case rel =>
        refine ⟨k + 1, d1, by omega, by go_num, Ctx.St.hs (by rw [hl] at S1; exact S1) (fun v hv => (hh v hv).symm), K.trans K1, G.trans G1, fun j hj => ?_⟩
        by_cases e : j = k
        · subst e; rw [HQ.out]; exact h1
        · exact G1.mono _ (HD.out j (by omega))
      case measure => simp [intOf]; omega
    · have : k = n := by omega
      subst this
      go_wp2_with fail
      go_end0
      exact ⟨dk, rfl, S, K, G, HD.out⟩
end Go.Proofs.YtjebijnndfkinaaGreat

namespace Go.Proofs.YtjebijnndfkinaaGreat
open Go.RowKit

theorem Ctx.sep (c : Ctx) (hz : c.w0.heap.size ≤ c.hb) {va : Option Addr} {n : Nat} {vs : Nat → Int} (hI : IntsAt c.w0 va n vs) : 0 < n → ∀ x, va = some x → x.block ≠ c.hb := fun h0 x hx => by
  obtain ⟨b, off, e, hc⟩ := hI h0
  have h1 := cell_lt (hc 0 h0)
  rw [e] at hx; cases hx
  show b ≠ c.hb
  omega

theorem hold_St (c : Ctx) (ok : c.Ok) (va : Option Addr) (n vc : Nat) (vs : Nat → Int) (step : Int) (hs : -1 ≤ step ∧ step ≤ 1) (l : Int) (h : Nat → Int) (a b : Nat → Bool) (w : World) (hn : n ≤ 1048576) (hI : IntsAt c.w0 va n vs) (hB : ∀ x, -1099511627776 ≤ h x ∧ h x ≤ 1099511627776) (S : c.St w l h a b) :
    Calls Tryz.prog 64 #[.pointer (some ⟨c.wb, 0, none⟩), .slice va n vc, .int .i64 step] w fun e w' => e = .returned (.tuple #[]) ∧ c.St w' l (holdF c.m.nv h vs step n) a b ∧ c.Keep w w' := by
  obtain ⟨o, W, ⟨cur, B, A⟩, sc, B2, S2⟩ := S
  refine (hold_any c.wb _ _ _ c.hb c.m.nv l c.sb c.m.nn cur h va n vc vs step w W B A hn hs hB (hI.onw o) (c.sep ok.zhb hI) ok.ne1).mono ?_
  rintro e w' ⟨cur', rfl, h1, h2, h3, h4, h5⟩
  exact ⟨rfl, ⟨Below.trans o (Below.mono h1 ok.zhb), ⟨W.blk.kept h2 ok.ne1⟩, ⟨cur', h4, h5⟩, sc, B2.kept h2 (Ne.symm ok.ne3), S2⟩, ⟨by omega, fun x hx => h2 x hx.2.2.1⟩⟩

theorem hold_up (c : Ctx) (ok : c.Ok) (va : Option Addr) (n vc : Nat) (vs : Nat → Int) (l : Int) (h : Nat → Int) (a b : Nat → Bool) (w : World) (hn : n ≤ 1048576) (hI : IntsAt c.w0 va n vs) (hB : ∀ x, -1099511627776 ≤ h x ∧ h x ≤ 1099511627776) (S : c.St w l h a b) :
    Calls Tryz.prog 64 #[.pointer (some ⟨c.wb, 0, none⟩), .slice va n vc, .int .i64 1] w fun e w' => e = .returned (.tuple #[]) ∧ c.St w' l (fun x => h x + cntV c.m.nv vs n x) a b ∧ c.Keep w w' := by
  refine (hold_St c ok va n vc vs 1 (by omega) l h a b w hn hI hB S).mono ?_
  rintro e w' ⟨rfl, h1, h2⟩
  exact ⟨rfl, h1.hs fun v _ => (holdF_up _ _ _ _ _).symm, h2⟩
theorem hold_down (c : Ctx) (ok : c.Ok) (va : Option Addr) (n vc : Nat) (vs : Nat → Int) (l : Int) (h : Nat → Int) (a b : Nat → Bool) (w : World) (hn : n ≤ 1048576) (hI : IntsAt c.w0 va n vs) (hB : ∀ x, -1099511627776 ≤ h x ∧ h x ≤ 1099511627776) (S : c.St w l h a b) :
    Calls Tryz.prog 64 #[.pointer (some ⟨c.wb, 0, none⟩), .slice va n vc, .int .i64 (-1)] w fun e w' => e = .returned (.tuple #[]) ∧ c.St w' l (fun x => h x - cntV c.m.nv vs n x) a b ∧ c.Keep w w' := by
  refine (hold_St c ok va n vc vs (-1) (by omega) l h a b w hn hI hB S).mono ?_
  rintro e w' ⟨rfl, h1, h2⟩
  exact ⟨rfl, h1.hs fun v _ => (holdF_down _ _ _ _ _).symm, h2⟩

/-- The loops counted anew. -/
theorem Ctx.St.loop {c : Ctx} (ok : c.Ok) {w : World} {l : Int} {h : Nat → Int} {a b : Nat → Bool} (S : c.St w l h a b) (l' : Int) : c.St (w.setCell ⟨c.wb, 4, none⟩ (.int .i64 l')) l' h a b ∧ c.Keep w (w.setCell ⟨c.wb, 4, none⟩ (.int .i64 l')) := by
  obtain ⟨o, W, ⟨cur, B, A⟩, sc, B2, S2⟩ := S
  have K : Kept (· ≠ c.wb) w (w.setCell ⟨c.wb, 4, none⟩ (.int .i64 l')) := Kept.set (Kept.refl _ _) (by simp) _
  refine ⟨⟨below_set o ok.zwb _, ⟨?_⟩, ⟨cur, B.kept K (Ne.symm ok.ne1), A⟩, sc, B2.kept K (Ne.symm ok.ne2), S2⟩, ⟨by rw [World.size_setCell]; exact Nat.le_refl _, fun x hx => K x hx.2.1⟩⟩
  have := W.blk.set 4 (.int .i64 l')
  simpa using this

set_option maxHeartbeats 1000000 in
theorem visitLoop_any (c : Ctx) (ok : c.Ok) (q : Nat) (va : Option Addr) (n vc : Nat) (vs : Nat → Int) (l : Int) (h : Nat → Int) (w : World) (dn : Nat → Bool) (hn : n ≤ 1048576) (hI : IntsAt c.w0 va n vs) (hV : c.VisitOk q) (h0 : 0 ≤ l) (h1 : l ≤ 1048576) (hl : c.L q = l + 1) (hh : ∀ v, v < c.m.nv → c.H q v = h v + cntV c.m.nv vs n v)
    (hB : ∀ x, 0 ≤ h x ∧ h x ≤ 1000000000000) (S : c.Std w l h dn) :
    Calls Tryz.prog 62 #[.pointer (some ⟨c.wb, 0, none⟩), .int .i64 q, .slice va n vc] w fun e w' => ∃ dn', e = .returned (.tuple #[]) ∧ c.Std w' l h dn' ∧ c.Keep w w' ∧ c.Grow dn dn' ∧ dn' q = true := by
  have HB1 : Hid (∀ x, -1099511627776 ≤ h x ∧ h x ≤ 1099511627776) := fun x => by have := hB x; omega
  have HB2 : Hid (∀ x, -1099511627776 ≤ (fun x => h x + cntV c.m.nv vs n x) x ∧ (fun x => h x + cntV c.m.nv vs n x) x ≤ 1099511627776) := fun x => by have := hB x; have := cntV_le c.m.nv vs n x; simp only; omega
  have HH : Hid _ := hh
  have HL : Hid _ := hl
  clear hB hh hl
  have x := S.W.blk.cell
  have fs := S.W.blk.free
  go_enter Tryz.func62, Tryz.ntmps62
  go_wp2_with fail
  clear x fs
  obtain ⟨S1, K1⟩ := Ctx.St.loop ok S (l + 1)
  refine (hold_up c ok va n vc vs (l + 1) h _ _ _ hn hI HB1.out S1).mono ?_
  rintro e w2 ⟨rfl, S2, K2⟩
  go_wp2_with fail
  refine (hV _ dn (by rw [HL.out]; exact Ctx.St.hs S2 HH.out)).mono ?_
  rintro e w3 ⟨d3, rfl, S3, K3, G3, h3⟩
  rw [HL.out] at S3
  have S3' : c.Std w3 (l + 1) (fun x => h x + cntV c.m.nv vs n x) d3 := Ctx.St.hs S3 fun v hv => (HH.out v hv).symm
  clear S3
  go_wp2_with fail
  refine (hold_down c ok va n vc vs (l + 1) _ _ _ _ hn hI HB2.out S3').mono ?_
  rintro e w4 ⟨rfl, S4, K4⟩
  have S4' : c.Std w4 (l + 1) h d3 := Ctx.St.hs S4 fun v hv => by show _ = h v + cntV _ _ _ _ - cntV _ _ _ _; omega
  clear S4
  have x := S4'.W.blk.cell
  have fs := S4'.W.blk.free
  go_wp2_with fail
  go_end0
  have e1 : l + 1 - 1 = l := by omega
  obtain ⟨S5, K5⟩ := Ctx.St.loop ok S4' l
  first
    | exact ⟨d3, rfl, S5, (((K1.trans K2).trans K3).trans K4).trans K5, G3, h3⟩
    | (rw [e1]; exact ⟨d3, rfl, S5, (((K1.trans K2).trans K3).trans K4).trans K5, G3, h3⟩)
end Go.Proofs.YtjebijnndfkinaaGreat
