import Derived.Test.YtjebijnndfkinaaGreatP15
namespace Go.Proofs.YtjebijnndfkinaaGreat
open Go.RowKit
attribute [local go_sem] run_store_float

/-- What a tree gives to a walk through it, as plain data. -/
structure Facts (d : FD) (H : Nat → Nat → Int) (L : Nat → Int) : Prop where
  pos : 0 < d.nn
  par0 : 0 ≤ d.params
  par1 : d.params ≤ d.nv
  nk : ∀ n, n < d.nn → (d.nd n).nk ≤ 200
  kids : ∀ n, n < d.nn → ∀ j, j < (d.nd n).nk → 0 ≤ (d.nd n).kd j ∧ (d.nd n).kd j < n
  k2 : ∀ n, n < d.nn → (d.nd n).kind = 6 ∨ (d.nd n).kind = 8 ∨ (d.nd n).kind = 12 → (d.nd n).nk = 2
  k4 : ∀ n, n < d.nn → (d.nd n).kind = 7 → (d.nd n).nk = 4
  r1 : ∀ n, n < d.nn → (d.nd n).kind = 26 ∨ (d.nd n).kind = 36 → (d.nd n).nr = 1 ∧ (d.nd n).nk = 0
  hL : ∀ n, n < d.nn → 0 ≤ L n ∧ L n ≤ 1048576
  hH : ∀ n, n < d.nn → ∀ v, 0 ≤ H n v ∧ H n v ≤ 1000000000000
  eL : ∀ n, n < d.nn → ∀ j, j < (d.nd n).nk → L ((d.nd n).kd j).toNat = L n + (if loopK (d.nd n).kind = true ∧ j + 1 = (d.nd n).nk then 1 else 0)
  eH : ∀ n, n < d.nn → ∀ j, j < (d.nd n).nk → ∀ v, v < d.nv → H ((d.nd n).kd j).toNat v = H n v + (if (d.nd n).kind = 1 then letS d.nv d.nd n j v else if headK (d.nd n).kind = true ∧ j + 1 = (d.nd n).nk then cntV d.nv (d.nd n).rf (d.nd n).nr v else 0)
  top : L (d.nn - 1) = 0
  topH : ∀ v, v < d.nv → H (d.nn - 1) v = if (v : Int) < d.params then 1 else 0
  par : ∀ n, n + 1 < d.nn → ∃ m, m < d.nn ∧ ∃ j, j < (d.nd m).nk ∧ (d.nd m).kd j = n

def inLB (L : Nat → Int) (n : Nat) : Bool := decide (0 < L n)
def fndB (u : UD) (d : FD) (H : Nat → Nat → Int) (n : Nat) : Bool := if (d.nd n).kind = 26 then scopeB d.nv (H n) ((d.nd n).rf 0) else if (d.nd n).kind = 36 then findsB u d.nv (H n) d.nu ((d.nd n).rf 0) else false

/-- What has been seen is all. -/
theorem Ctx.all {c : Ctx} {L : Nat → Int} {H : Nat → Nat → Int} (F : Facts c.m.toFD H L) {dn : Nat → Bool} (G : c.Grow (fun _ => false) dn) (h : dn (c.m.nn - 1) = true) : ∀ n, n < c.m.nn → dn n = true := by
  have key : ∀ k n, n + k + 1 = c.m.nn → dn n = true := by
    intro k
    induction k using Nat.strongRecOn with
    | _ k ih =>
      intro n hn
      by_cases hk : k = 0
      · have : n = c.m.nn - 1 := by omega
        rw [this]; exact h
      · obtain ⟨m, hm, j, hj, e⟩ := F.par n (show n + 1 < c.m.nn by omega)
        have hm' : m < c.m.nn := hm
        have hlt := (F.kids m hm j hj).2
        have hd := ih (c.m.nn - m - 1) (by omega) m (by omega)
        rcases G.shut m hm' hd with h1 | h1
        · cases h1
        · have := h1 j hj
          have e' : (c.m.nm m).kd j = n := e
          rw [e'] at this; simpa using this
  intro n hn
  exact key (c.m.nn - n - 1) n (by omega)

def SiAt (w : World) (b n : Nat) (p q : Nat → Bool) : Prop := ∀ i, i < n → w.cell? ⟨b, i * 2, none⟩ = some (.bool (p i)) ∧ w.cell? ⟨b, i * 2 + 1, none⟩ = some (.bool (q i))
theorem SiAt.onw {w w' : World} (h : Onw w w') {b n p q} (s : SiAt w b n p q) : SiAt w' b n p q := fun i hi => ⟨cell_onw h (s i hi).1, cell_onw h (s i hi).2⟩
theorem SiAt.keptIn {w w' : World} {lo b n p q} (hk : Kept (fun x => x < w.heap.size ∧ lo ≤ x) w w') (hb : lo ≤ b) (s : SiAt w b n p q) : SiAt w' b n p q := fun i hi =>
  ⟨(hk.cell ⟨cell_lt (s i hi).1, hb⟩).trans (s i hi).1, (hk.cell ⟨cell_lt (s i hi).1, hb⟩).trans (s i hi).2⟩
def SightsAll (w : World) (ab nf : Nat) (sb : Nat → Nat) (fm : Nat → FM) (p q : Nat → Nat → Bool) : Prop := ∀ f, f < nf → w.cell? ⟨ab, f, none⟩ = some (.slice (some ⟨sb f, 0, none⟩) (fm f).nn (fm f).nn) ∧ SiAt w (sb f) (fm f).nn (p f) (q f)
theorem SightsAll.onw {w w' : World} (h : Onw w w') {ab nf sb fm p q} (s : SightsAll w ab nf sb fm p q) : SightsAll w' ab nf sb fm p q := fun f hf => ⟨cell_onw h (s f hf).1, (s f hf).2.onw h⟩

theorem info_sight : (Tryz.prog.info? 104).map (fun i => (i.zero, i.size, i.bytes)) = some (some (.agg #[.bool false, .bool false]), 2, 2) := by kernel_rfl
theorem info_sights : (Tryz.prog.info? 87).map (fun i => (i.zero, i.size, i.bytes)) = some (some (.slice none 0 0), 1, 24) := by kernel_rfl
theorem run_make_sights (n : Nat) (hn : n ≤ 1048576) (w : World) :
    (Instr.makeSlice 87 (.int .i64 n) (.int .i64 n)).run Tryz.prog w = .ok (.slice (some ⟨w.heap.size, 0, none⟩) n n) (w.alloc (.cells (madeCells #[.bool false, .bool false] (n * 2)) 104)) := by
  obtain ⟨i0, hi, hz0, hz1, hz2⟩ := info_parts info_sight
  have := run_make (P := Tryz.prog) w 87 104 i0 _ Tryz.underlying87 hi hz0 .i64 .i64 n n (by omega) (by omega) (by rw [hz2]; omega) (by omega)
  simpa [hz1, Value.cells] using this
theorem run_make_sightss (n : Nat) (hn : n ≤ 1048576) (w : World) :
    (Instr.makeSlice 41 (.int .i64 n) (.int .i64 n)).run Tryz.prog w = .ok (.slice (some ⟨w.heap.size, 0, none⟩) n n) (w.alloc (.cells (madeCells #[.slice none 0 0] n) 87)) := by
  obtain ⟨i0, hi, hz0, hz1, hz2⟩ := info_parts info_sights
  have := run_make (P := Tryz.prog) w 41 87 i0 _ Tryz.underlying41 hi hz0 .i64 .i64 n n (by omega) (by omega) (by rw [hz2]; omega) (by omega)
  simpa [hz1, Value.cells] using this
theorem made_sight (n : Nat) : SArr (madeCells #[.bool false, .bool false] (n * 2)) n (fun _ => false) (fun _ => false) := by
  refine ⟨size_madeCells _ _, fun k hk => ⟨?_, ?_⟩⟩
  · have h1 : k * 2 < n * 2 := by omega
    have h2 : k * 2 % 2 = 0 := by omega
    simp [madeCells, h1, h2]
  · have h1 : k * 2 + 1 < n * 2 := by omega
    have h2 : (k * 2 + 1) % 2 = 1 := by omega
    simp [madeCells, h1, h2]
end Go.Proofs.YtjebijnndfkinaaGreat

namespace Go.Proofs.YtjebijnndfkinaaGreat
open Go.RowKit
attribute [local go_sem] run_store_float

set_option maxRecDepth 100000 in
set_option maxHeartbeats 4000000 in
theorem sightsOf_any (u : UM) (ab : Nat) (fb : Nat → Nat) (H : Nat → Nat → Nat → Int) (L : Nat → Nat → Int) (w : World) (hn : u.nf ≤ 1048576) (hs : ∀ f, f < u.nf → (u.fm f).Small) (hkc : ∀ f, f < u.nf → ∀ n, n < (u.fm f).nn → ((u.fm f).nm n).nk ≤ ((u.fm f).nm n).kc) (hFa : ∀ f, f < u.nf → Facts (u.fm f).toFD (H f) (L f)) (ha : u.At w) (hF : FormsAll w ab u.nf fb u.fm) :
    Calls Tryz.prog 22 #[.slice u.fa u.nf u.fc, .slice (some ⟨ab, 0, none⟩) u.nf u.nf] w fun e w' => ∃ sa sb, e = .returned (.slice (some ⟨sa, 0, none⟩) u.nf u.nf) ∧ Onw w w' ∧ SightsAll w' sa u.nf sb u.fm (fun f => inLB (L f)) (fun f => fndB u.toUD (u.fm f).toFD (H f)) ∧ w.heap.size ≤ sa ∧ ∀ f, f < u.nf → w.heap.size ≤ sb f := by
  obtain ⟨nf, fm, ua, uc⟩ := u
  simp only at *
  have HS : Hid _ := hs
  have HA : Hid _ := ha
  have HKC : Hid _ := hkc
  have HFA : Hid _ := hFa
  have HF : Hid _ := hF
  clear hs ha hkc hFa hF
  have hmk := run_make_sightss nf hn
  go_enter Tryz.func22, Tryz.ntmps22
  go_wp2_with fail
  clear hmk
  go_loopw [15] (fun i wr => ∃ (k : Nat) (sb : Nat → Nat) (cur : Array Value), k ≤ nf ∧ i = .int .i64 k ∧ Onw w wr ∧ Blk wr w.heap.size 87 cur ∧ cur.size = nf ∧ ∀ f, f < k → cur[f]? = some (.slice (some ⟨sb f, 0, none⟩) (fm f).nn (fm f).nn) ∧ w.heap.size + 1 ≤ sb f ∧ SiAt wr (sb f) (fm f).nn (inLB (L f)) (fndB (UM.toUD ⟨nf, fm, ua, uc⟩) (fm f).toFD (H f))) (fun i _ => nf - (intOf i).toNat)
  case atStart => exact ⟨0, fun _ => 0, _, Nat.zero_le _, rfl, Onw.alloc _ _, Blk.new _ _ _, size_madeCells _ _, fun f hf => absurd hf (Nat.not_lt_zero _)⟩
  case round =>
    obtain ⟨k, sb, cur, hk, rfl, ob, B, hz, hG⟩ := hrel
    obtain ⟨w0, hw0⟩ : ∃ x, x = wr := ⟨_, rfl⟩
    subst hw0
    have HG : Hid _ := hG
    clear hG
    by_cases hlt : k < nf
    · have hA := FnsAt.onw ob HA.out
      obtain ⟨b, off, hua, hc⟩ := hA.1 (by omega)
      subst hua
      obtain ⟨c0, c1, c2, c3, c4, c5, c6⟩ := hc k hlt
      have zb := cell_lt c0
      have zB := B.lt
      clear hc hA
      have g0 := cell_onw ob (HF.out k hlt).1
      have zg := cell_lt g0
      have mk1 := run_make_ints (fm k).nv (HS.out k hlt).1
      have mk2 := run_make_sights (fm k).nn (HS.out k hlt).2.2.1
      go_wp2_with fail
      have O1 : Onw w0 (w0.alloc (Obj.cells #[.string (fm k).name, .int .i64 (fm k).line, .int .i64 (fm k).params, .bool (fm k).rest, .slice (fm k).va (fm k).nv (fm k).vc, .slice (fm k).ua (fm k).nu (fm k).uc, .slice (fm k).na (fm k).nn (fm k).nc] 61)) := Onw.alloc _ _
      have B1 := Blk.new w0 61 #[.string (fm k).name, .int .i64 (fm k).line, .int .i64 (fm k).params, .bool (fm k).rest, .slice (fm k).va (fm k).nv (fm k).vc, .slice (fm k).ua (fm k).nu (fm k).uc, .slice (fm k).na (fm k).nn (fm k).nc]
      have BA1 := B.onw O1
      have g1 := cell_onw O1 g0
      have z1 : (w0.alloc (Obj.cells #[.string (fm k).name, .int .i64 (fm k).line, .int .i64 (fm k).params, .bool (fm k).rest, .slice (fm k).va (fm k).nv (fm k).vc, .slice (fm k).ua (fm k).nu (fm k).uc, .slice (fm k).na (fm k).nn (fm k).nc] 61)).heap.size = w0.heap.size + 1 := by simp
      clear c0 c1 c2 c3 c4 c5 c6 g0
      generalize w0.alloc (Obj.cells #[.string (fm k).name, .int .i64 (fm k).line, .int .i64 (fm k).params, .bool (fm k).rest, .slice (fm k).va (fm k).nv (fm k).vc, .slice (fm k).ua (fm k).nu (fm k).uc, .slice (fm k).na (fm k).nn (fm k).nc] 61) = w1 at *
      have b5 : w1.cell? ⟨w0.heap.size, 5, none⟩ = some (.slice (fm k).ua (fm k).nu (fm k).uc) := by rw [B1.cell]; rfl
      go_region_held3 (fun w' => w'.cell? ⟨ab, k, none⟩ = some (.slice (some ⟨fb k, 0, none⟩) (fm k).nn (fm k).nn) ∧ w'.cell? ⟨w0.heap.size, 5, none⟩ = some (.slice (fm k).ua (fm k).nu (fm k).uc)) (go_keep) (fail)
      have O2 : Onw w1 ((w1.alloc (Obj.cells #[.slice (some ⟨b, off, none⟩) nf uc, .slice (some ⟨fb k, 0, none⟩) (fm k).nn (fm k).nn, .int .i64 (fm k).nu, .slice none 0 0, .int .i64 0, .slice none 0 0] 89)).drew) := Below.drew (Onw.alloc _ _)
      have BW2 : Blk ((w1.alloc (Obj.cells #[.slice (some ⟨b, off, none⟩) nf uc, .slice (some ⟨fb k, 0, none⟩) (fm k).nn (fm k).nn, .int .i64 (fm k).nu, .slice none 0 0, .int .i64 0, .slice none 0 0] 89)).drew) (w0.heap.size + 1) 89 #[.slice (some ⟨b, off, none⟩) nf uc, .slice (some ⟨fb k, 0, none⟩) (fm k).nn (fm k).nn, .int .i64 (fm k).nu, .slice none 0 0, .int .i64 0, .slice none 0 0] := by rw [← z1]; exact (Blk.new w1 89 #[.slice (some ⟨b, off, none⟩) nf uc, .slice (some ⟨fb k, 0, none⟩) (fm k).nn (fm k).nn, .int .i64 (fm k).nu, .slice none 0 0, .int .i64 0, .slice none 0 0]).onw (Below.drew (Onw.refl _))
      have z2 : ((w1.alloc (Obj.cells #[.slice (some ⟨b, off, none⟩) nf uc, .slice (some ⟨fb k, 0, none⟩) (fm k).nn (fm k).nn, .int .i64 (fm k).nu, .slice none 0 0, .int .i64 0, .slice none 0 0] 89)).drew).heap.size = w0.heap.size + 2 := by simp [World.drew, z1]
      have B2 := B1.onw O2
      have BA2 := BA1.onw O2
      have O02 := O1.trans O2
      clear g1 b5 B1 BA1 O2 O1
      try rw [z1]
      generalize (w1.alloc (Obj.cells #[.slice (some ⟨b, off, none⟩) nf uc, .slice (some ⟨fb k, 0, none⟩) (fm k).nn (fm k).nn, .int .i64 (fm k).nu, .slice none 0 0, .int .i64 0, .slice none 0 0] 89)).drew = w2 at *
      clear z1
      have xb := B2.cell
      have xw := BW2.cell
      have fw := BW2.free
      go_wp2_with fail
      have BW3 := (BW2.set 3 (.slice (some ⟨w0.heap.size + 2, 0, none⟩) (fm k).nv (fm k).nv)).set 5 (.slice (some ⟨w0.heap.size + 2 + 1, 0, none⟩) (fm k).nn (fm k).nn)
      simp only [List.setIfInBounds_toArray, List.set_cons_zero, List.set_cons_succ] at BW3
      have K3 : Kept (· ≠ w0.heap.size + 1) w2 ((w2.setCell ⟨w0.heap.size + 1, 3, none⟩ (.slice (some ⟨w0.heap.size + 2, 0, none⟩) (fm k).nv (fm k).nv)).setCell ⟨w0.heap.size + 1, 5, none⟩ (.slice (some ⟨w0.heap.size + 2 + 1, 0, none⟩) (fm k).nn (fm k).nn)) := Kept.set (Kept.set (Kept.refl _ _) (by simp) _) (by simp) _
      have zz : ((w2.setCell ⟨w0.heap.size + 1, 3, none⟩ (.slice (some ⟨w0.heap.size + 2, 0, none⟩) (fm k).nv (fm k).nv)).setCell ⟨w0.heap.size + 1, 5, none⟩ (.slice (some ⟨w0.heap.size + 2 + 1, 0, none⟩) (fm k).nn (fm k).nn)).heap.size = w0.heap.size + 2 := by rw [World.size_setCell, World.size_setCell]; exact z2
      have O2' : Onw w0 ((w2.setCell ⟨w0.heap.size + 1, 3, none⟩ (.slice (some ⟨w0.heap.size + 2, 0, none⟩) (fm k).nv (fm k).nv)).setCell ⟨w0.heap.size + 1, 5, none⟩ (.slice (some ⟨w0.heap.size + 2 + 1, 0, none⟩) (fm k).nn (fm k).nn)) := below_set (below_set O02 (by omega) _) (by omega) _
      have B2' := B2.kept K3 (show w0.heap.size ≠ w0.heap.size + 1 by omega)
      have BA2' := BA2.kept K3 (show w.heap.size ≠ w0.heap.size + 1 by omega)
      have N1 := Blk.new ((w2.setCell ⟨w0.heap.size + 1, 3, none⟩ (.slice (some ⟨w0.heap.size + 2, 0, none⟩) (fm k).nv (fm k).nv)).setCell ⟨w0.heap.size + 1, 5, none⟩ (.slice (some ⟨w0.heap.size + 2 + 1, 0, none⟩) (fm k).nn (fm k).nn)) 3 (madeCells #[.int .i64 0] (fm k).nv)
      rw [zz] at N1
      clear BW2 B2 BA2 O02 xb xw fw K3 mk1 mk2
      generalize ((w2.setCell ⟨w0.heap.size + 1, 3, none⟩ (.slice (some ⟨w0.heap.size + 2, 0, none⟩) (fm k).nv (fm k).nv)).setCell ⟨w0.heap.size + 1, 5, none⟩ (.slice (some ⟨w0.heap.size + 2 + 1, 0, none⟩) (fm k).nn (fm k).nn)) = w3 at *
      have O4 := (Onw.alloc w3 (Obj.cells (madeCells #[.int .i64 0] (fm k).nv) 3)).trans (Onw.alloc _ (Obj.cells (madeCells #[.bool false, .bool false] ((fm k).nn * 2)) 104))
      have N2 := Blk.new (w3.alloc (Obj.cells (madeCells #[.int .i64 0] (fm k).nv) 3)) 104 (madeCells #[.bool false, .bool false] ((fm k).nn * 2))
      rw [show (w3.alloc (Obj.cells (madeCells #[.int .i64 0] (fm k).nv) 3)).heap.size = w0.heap.size + 2 + 1 by simp [zz]] at N2
      have N1' := N1.onw (Onw.alloc _ (Obj.cells (madeCells #[.bool false, .bool false] ((fm k).nn * 2)) 104))
      have BW4 := BW3.onw O4
      have B4 := B2'.onw O4
      have BA4 := BA2'.onw O4
      have O5 := O2'.trans O4
      clear BW3 B2' BA2' N1 O4 O2'
      generalize (w3.alloc (Obj.cells (madeCells #[.int .i64 0] (fm k).nv) 3)).alloc (Obj.cells (madeCells #[.bool false, .bool false] ((fm k).nn * 2)) 104) = w4 at *
      have F := HFA.out k hlt
      have snv := (HS.out k hlt).1
      have snn := (HS.out k hlt).2.2.1
      have fp0 : 0 ≤ (fm k).params := F.par0
      have fp1 : (fm k).params ≤ (fm k).nv := F.par1
      obtain ⟨P, hP⟩ := Int.eq_ofNat_of_zero_le fp0
      have HP : Hid _ := hP
      have fp2 : P ≤ (fm k).nv := by omega
      rw [hP] at B4 ⊢
      clear hP fp0 fp1 F
      go_loopw [41] (fun i wr => ∃ (j : Nat) (hc : Array Value), j ≤ P ∧ i = .int .i64 j ∧ Onw w0 wr ∧ Blk wr (w0.heap.size + 1) 89 #[.slice (some ⟨b, off, none⟩) nf uc, .slice (some ⟨fb k, 0, none⟩) (fm k).nn (fm k).nn, .int .i64 (fm k).nu, .slice (some ⟨w0.heap.size + 2, 0, none⟩) (fm k).nv (fm k).nv, .int .i64 0, .slice (some ⟨w0.heap.size + 2 + 1, 0, none⟩) (fm k).nn (fm k).nn] ∧ Blk wr w0.heap.size 61 #[.string (fm k).name, .int .i64 (fm k).line, .int .i64 P, .bool (fm k).rest, .slice (fm k).va (fm k).nv (fm k).vc, .slice (fm k).ua (fm k).nu (fm k).uc, .slice (fm k).na (fm k).nn (fm k).nc] ∧ Blk wr w.heap.size 87 cur ∧ Blk wr (w0.heap.size + 2) 3 hc ∧ Arr hc (fm k).nv (fun x => if x < j then 1 else 0) ∧ Blk wr (w0.heap.size + 2 + 1) 104 (madeCells #[.bool false, .bool false] ((fm k).nn * 2))) (fun i _ => P - (intOf i).toNat)
      case atStart => exact ⟨0, _, Nat.zero_le _, rfl, O5, BW4, B4, BA4, N1', ⟨size_madeCells _ _, fun x hx => by simp [made_int (fm k).nv x hx]⟩, N2⟩
      case round =>
        clear O5 BW4 B4 BA4 N1' N2
        obtain ⟨j, hc, hj, rfl, O5, BW, BF, BA, BH, AH, BS⟩ := hrel
        by_cases hjt : j < P
        · have xw := BW.cell
          have xh : wr.cell? ⟨w0.heap.size + 2, j, none⟩ = some (.int .i64 0) := by rw [BH.cell, AH.2 j (by omega)]; simp
          have fh := BH.free
          have R : Hid (Arr (hc.setIfInBounds j (.int .i64 1)) (fm k).nv (fun x => if x < j + 1 then 1 else 0)) := by
            refine AH.set j 1 fun x hx => ?_
            by_cases e : x = j
            · subst e; simp
            · simp only [if_neg e]; by_cases e2 : x < j
              · rw [if_pos e2, if_pos (by omega)]
              · rw [if_neg e2, if_neg (by omega)]
          have KK : Hid (∀ y, Kept (· ≠ w0.heap.size + 2) wr (wr.setCell ⟨w0.heap.size + 2, j, none⟩ y)) := fun y => Kept.set (Kept.refl _ _) (by simp) _
          go_wp2_with fail
          go_roundw
          case rel => exact ⟨j + 1, _, by omega, by go_num, below_set O5 (by omega) _, BW.kept (KK.out _) (by omega), BF.kept (KK.out _) (by omega), BA.kept (KK.out _) (by omega), BH.set j _, R.out, BS.kept (KK.out _) (by omega)⟩
          case measure => simp [intOf]; omega
        · have : j = P := by omega
          subst this
          have xb := BF.cell
          have fn0 := (HFA.out k hlt).pos
          have fn1 : 0 < (fm k).nn := fn0
          clear fn0
          go_wp2_with fail
          clear xb
          have F := HFA.out k hlt
          have zo := ob.size
          have okc : Ctx.Ok ⟨⟨nf, fm, some ⟨b, off, none⟩, uc⟩, fm k, w, w0.heap.size + 1, w0.heap.size + 2, w0.heap.size + 2 + 1, fb k, H k, L k⟩ :=
            { hn := hn, hu := fun f hf => (HS.out f hf).2.1, hua := HA.out, hma := HA.out.2 k hlt, hsm := HS.out k hlt, hF := (HF.out k hlt).2, zwb := by show w.heap.size ≤ w0.heap.size + 1; omega, zhb := by show w.heap.size ≤ w0.heap.size + 2; omega, zsb := by show w.heap.size ≤ w0.heap.size + 2 + 1; omega, ne1 := by show w0.heap.size + 1 ≠ w0.heap.size + 2; omega, ne2 := by show w0.heap.size + 1 ≠ w0.heap.size + 2 + 1; omega, ne3 := by show w0.heap.size + 2 ≠ w0.heap.size + 2 + 1; omega, nk := F.nk, kc := HKC.out k hlt, kids := F.kids, k2 := F.k2, k4 := F.k4, r1 := F.r1, hL := F.hL, hH := F.hH, eL := F.eL, eH := F.eH }
          have hS : Ctx.Std ⟨⟨nf, fm, some ⟨b, off, none⟩, uc⟩, fm k, w, w0.heap.size + 1, w0.heap.size + 2, w0.heap.size + 2 + 1, fb k, H k, L k⟩ wr (L k ((fm k).nn - 1)) (H k ((fm k).nn - 1)) (fun _ => false) := by
            refine ⟨ob.trans O5, ⟨?_⟩, ⟨hc, BH, AH.congr fun v hv => ?_⟩, ⟨_, BS, (made_sight _).congr (fun _ _ => rfl) (fun _ _ => rfl)⟩⟩
            · have ft : L k ((fm k).nn - 1) = 0 := F.top
              rw [ft]; exact BW
            · have ft := F.topH v hv
              have e0 : (fm k).toFD.params = (j : Int) := HP.out
              have e2 : H k ((fm k).nn - 1) v = if (v : Int) < (j : Int) then 1 else 0 := by rw [← e0]; exact ft
              rw [e2]
              by_cases e : v < j
              · rw [if_pos e, if_pos (by omega)]
              · rw [if_neg e, if_neg (by omega)]
          have e1 : ((fm k).nn : Int) - 1 = (((fm k).nn - 1 : Nat) : Int) := by omega
          rw [e1]
          refine (visit_all _ okc ((fm k).nn - 1) (by show (fm k).nn - 1 < (fm k).nn; omega) wr _ hS).mono ?_
          rintro e w5 ⟨dn, rfl, S5, K5, G5, h5⟩
          have BA5 := K5.blk (show w.heap.size ≠ w0.heap.size + 1 by omega) (show w.heap.size ≠ w0.heap.size + 2 by omega) (show w.heap.size ≠ w0.heap.size + 2 + 1 by omega) BA
          have xw5 := S5.W.blk.cell
          have fs := BA5.free
          obtain ⟨y0, gy⟩ := BA5.some (j := k) (by rw [hz]; exact hlt)
          have HALL : Hid _ := Ctx.all (c := ⟨⟨nf, fm, some ⟨b, off, none⟩, uc⟩, fm k, w, w0.heap.size + 1, w0.heap.size + 2, w0.heap.size + 2 + 1, fb k, H k, L k⟩) F G5 h5
          simp only at xw5
          go_wp2_with fail
          go_roundw
          case rel =>
            refine ⟨k + 1, fun f => if f = k then w0.heap.size + 2 + 1 else sb f, _, by omega, by go_num, below_set S5.o (Nat.le_refl _) _, BA5.set k _, by simp [hz], fun f hf => ?_⟩
            by_cases e : f = k
            · subst e
              simp only [if_true]
              refine ⟨by simp [hz, hlt], by omega, fun x hx => ?_⟩
              obtain ⟨sc, sB, sA⟩ := S5.S
              have sB' := sB.kept (p := (· ≠ w.heap.size)) (Kept.set (b := w.heap.size) (o := f) (Kept.refl _ _) (by simp) (.slice (some ⟨w0.heap.size + 2 + 1, 0, none⟩) (fm f).nn (fm f).nn)) (show w0.heap.size + 2 + 1 ≠ w.heap.size by omega)
              have hA := sA.2 x hx
              have hd := HALL.out x hx
              simp only [hd, Bool.true_and] at hA
              exact ⟨by rw [sB'.cell]; exact hA.1, by rw [sB'.cell]; exact hA.2⟩
            · simp only [if_neg e]
              obtain ⟨h1, h2, h3⟩ := HG.out f (by omega)
              refine ⟨?_, h2, h3.keptIn ?_ h2⟩
              · rw [Array.getElem?_setIfInBounds, if_neg (fun h => e h.symm)]; exact h1
              · refine Kept.set (Kept.trans (kept_onw O5 fun x hx => hx.1) fun x hx => K5.kept x ⟨Nat.lt_of_lt_of_le hx.1 O5.size, ?_⟩) (by omega) _
                show x ≠ w0.heap.size + 1 ∧ x ≠ w0.heap.size + 2 ∧ x ≠ w0.heap.size + 2 + 1
                have := hx.1; omega
          case measure => simp [intOf]; omega
    · have : k = nf := by omega
      subst this
      go_wp2_with fail
      go_ret
      exact ⟨_, sb, rfl, ob, fun f hf => ⟨by rw [B.cell]; exact (HG.out f hf).1, (HG.out f hf).2.2⟩, Nat.le_refl _, fun f hf => by have := (HG.out f hf).2.1; omega⟩
end Go.Proofs.YtjebijnndfkinaaGreat
