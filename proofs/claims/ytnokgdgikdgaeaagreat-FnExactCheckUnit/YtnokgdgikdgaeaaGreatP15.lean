import Derived.Test.YtnokgdgikdgaeaaGreatP12
import Derived.Test.YtnokgdgikdgaeaaGreatP14
import Derived.Test.YtnokgdgikdgaeaaGreatP01
import Derived.Deep.QuietTactic
import Derived.BigQuiet
import Derived.BigRegion
import Derived.Deep.RegionWith
namespace Go.Proofs.YtnokgdgikdgaeaaGreat
open Go.RowKit
attribute [local go_sem] run_store_float run_store_func

theorem SightsAll.kept {w w' : World} {cb ab nf : Nat} {sb : Nat → Nat} {fm : Nat → FM} {p q : Nat → Nat → Bool} (hk : Kept (· ≠ cb) w w') (s : SightsAll w ab nf sb fm p q) (h1 : ab ≠ cb) (h2 : ∀ f, f < nf → sb f ≠ cb) : SightsAll w' ab nf sb fm p q := fun f hf =>
  ⟨(hk.cell h1).trans (s f hf).1, fun i hi => ⟨(hk.cell (h2 f hf)).trans ((s f hf).2 i hi).1, (hk.cell (h2 f hf)).trans ((s f hf).2 i hi).2⟩⟩
theorem MakersAt.kept {w w' : World} {cb b n : Nat} {s : MK} (hk : Kept (· ≠ cb) w w') (m : MakersAt w b n s) (h1 : b ≠ cb) : MakersAt w' b n s := fun i hi =>
  ⟨(hk.cell h1).trans (m i hi).1, (hk.cell h1).trans (m i hi).2.1, (hk.cell h1).trans (m i hi).2.2⟩

set_option maxRecDepth 100000 in
set_option maxHeartbeats 4000000 in
theorem implCheck_any (u : UM) (H : Nat → Nat → Nat → Int) (L : Nat → Nat → Int) (w : World) (hn : u.nf ≤ 1048576) (hs : ∀ f, f < u.nf → (u.fm f).Small) (hsum : sumTo (fun i => (u.fm i).nn) u.nf ≤ 1048576) (hcap : ∀ f, f < u.nf → (u.fm f).nn ≤ (u.fm f).nc ∧ ∀ n, n < (u.fm f).nn → ((u.fm f).nm n).nk ≤ ((u.fm f).nm n).kc) (ha : u.At w)
    (p3 : (∀ f, f < u.nf → rules1 u.toUD 0 f = -1) → (∀ f, f < u.nf → rules1 u.toUD 1 f = -1) → ∀ f, f < u.nf → Ok3 (u.fm f).toFD)
    (pF : sizeBad u.toUD = false → ffK code1 (rules1 u.toUD) u.nf 0 4 = none → ∀ f, f < u.nf → Facts (u.fm f).toFD (H f) (L f) ∧ ∀ n, n < (u.fm f).nn → ((u.fm f).nm n).kind = 27 → ((u.fm f).nm n).nr = 1)
    (p6 : (∀ f, f < u.nf → rules2 u.toUD H L 0 f = -1) → ∀ f, f < u.nf → ∀ n, n < (u.fm f).nn → ((u.fm f).nm n).kind = 36 → 0 ≤ ((u.fm f).nm n).rf 0 ∧ ((u.fm f).nm n).rf 0 < u.nf) :
    Calls Tryz.prog 7 #[.agg #[.slice u.fa u.nf u.fc]] w fun e w' => e = .returned (fval (implB u.toUD H L)) ∧ Onw w w' := by
  have HS : Hid _ := hs
  have HC : Hid _ := hcap
  have HA : Hid _ := ha
  have P3 : Hid _ := p3
  have PF : Hid _ := pF
  have P6 : Hid _ := p6
  have HSU : Hid _ := hsum
  clear hs hcap ha p3 pF p6 hsum
  go_enter Tryz.func7, Tryz.ntmps7
  go_wp2_with fail
  have O1 := Onw.alloc w (Obj.cells #[.slice u.fa u.nf u.fc] 31)
  have O2 := Onw.alloc (w.alloc (Obj.cells #[.slice u.fa u.nf u.fc] 31)) (Obj.cells #[.int .i64 0, .int .i64 0, .int .i64 0] 27)
  have N1 := (Blk.new w 31 #[.slice u.fa u.nf u.fc]).onw O2
  have N2 := Blk.new (w.alloc (Obj.cells #[.slice u.fa u.nf u.fc] 31)) 27 #[.int .i64 0, .int .i64 0, .int .i64 0]
  have O12 := O1.trans O2
  simp only [World.size_alloc] at N2
  refine (sizeFits_any u _ hn HSU.out (UM.At.onw O12 HA.out)).mono ?_
  rintro e w3 ⟨rfl, O3⟩
  have B1 := N1.onw O3
  have B2 := N2.onw O3
  have o3 := O12.trans O3
  clear O1 O2 N1 N2 O12 O3
  have z1 := B1.lt
  have z2 := B2.lt
  cases hsz : sizeBad u.toUD
  · go_wp2_with fail
    have x0 : w3.cell? ⟨w.heap.size, 0, none⟩ = some (.slice u.fa u.nf u.fc) := by rw [B1.cell]; rfl
    have ne1 : w3.heap.size ≠ w.heap.size := by omega
    have ne2 : w.heap.size ≠ w3.heap.size := by omega
    go_cut [3] (fun hp wc => ∃ cb ab fb, hp = .pointer (some ⟨cb, 0, none⟩) ∧ w.heap.size + 1 < cb ∧ Blk wc cb 44 #[.slice u.fa u.nf u.fc, .slice (some ⟨ab, 0, none⟩) u.nf u.nf, .slice none 0 0, .slice none 0 0] ∧ Blk wc (w.heap.size + 1) 27 #[.int .i64 0, .int .i64 0, .int .i64 0] ∧ Onw w wc ∧ ∀ w', Kept (fun x => x < wc.heap.size ∧ x ≠ cb) wc w' → FormsAll w' ab u.nf fb u.fm)
    case first =>
      go_region_held3 (fun w' => w'.cell? ⟨w.heap.size, 0, none⟩ = some (.slice u.fa u.nf u.fc)) (go_keep)
        (first | (go_at_call 16; refine (formsOf_sep u _ hn (fun f hf => ⟨HS.out f hf, (HC.out f hf).1⟩) (by first | exact UM.At.onw (o3.trans (Below.drew (Onw.refl _))) HA.out | exact UM.At.onw (o3.trans (Below.drew (Onw.alloc _ _))) HA.out)).mono ?_; rintro e w4 ⟨ab, fb, rfl, O4, hF, hab, hfb⟩; have x4 := cell_onw O4 (show World.cell? _ ⟨w.heap.size, 0, none⟩ = some (.slice u.fa u.nf u.fc) by first | exact cell_onw (Below.drew (Onw.alloc _ _)) x0 | exact cell_onw (Below.drew (Onw.refl _)) x0); obtain ⟨hcc, hff⟩ := bcell O4; have hz4 := O4.size; simp at hz4))
      · go_wp2_with fail
        go_meet
        have ow : Onw w3 w4 := Onw.trans (Below.drew (Onw.refl _)) O4
        have := ow.size
        exact ⟨w4.heap.size, ab, fb, rfl, by omega, Blk.new _ _ _, (B2.onw ow).onw (Onw.alloc _ _), (o3.trans ow).trans (Onw.alloc _ _), fun w' hk => hF.keptAll (Kept.trans (kept_onw (Onw.alloc _ _) fun x hx => hx) fun x hx => hk x ⟨by rw [World.size_alloc]; exact Nat.lt_succ_of_lt hx, Nat.ne_of_lt hx⟩)⟩
      · go_wp2_with fail
        go_meet
        have ow : Onw (w3.alloc (Obj.cells #[.slice none 0 0, .slice none 0 0, .slice none 0 0, .slice none 0 0] 44)) w4 := Onw.trans (Below.drew (Onw.refl _)) O4
        have BZ := ((((Blk.new w3 44 #[.slice none 0 0, .slice none 0 0, .slice none 0 0, .slice none 0 0]).onw ow).set 0 (.slice u.fa u.nf u.fc)).set 1 (.slice (some ⟨ab, 0, none⟩) u.nf u.nf)).set 2 (.slice none 0 0) |>.set 3 (.slice none 0 0)
        simp only [List.setIfInBounds_toArray, List.set_cons_zero, List.set_cons_succ] at BZ
        have K : Kept (· ≠ w3.heap.size) w4 ((((w4.setCell ⟨w3.heap.size, 0, none⟩ (.slice u.fa u.nf u.fc)).setCell ⟨w3.heap.size, 1, none⟩ (.slice (some ⟨ab, 0, none⟩) u.nf u.nf)).setCell ⟨w3.heap.size, 2, none⟩ (.slice none 0 0)).setCell ⟨w3.heap.size, 3, none⟩ (.slice none 0 0)) := Kept.set (Kept.set (Kept.set (Kept.set (Kept.refl _ _) (by simp) _) (by simp) _) (by simp) _) (by simp) _
        have ow' := (Onw.alloc w3 (Obj.cells #[.slice none 0 0, .slice none 0 0, .slice none 0 0, .slice none 0 0] 44)).trans ow
        refine ⟨w3.heap.size, ab, fb, rfl, by omega, BZ, (B2.onw ow').kept K (by omega), ?_, fun w' hk => hF.keptOff (cb := w3.heap.size) (Kept.trans (fun x hx => K x hx.2) fun x hx => hk x ⟨by simp only [World.size_setCell]; exact hx.1, hx.2⟩) (by simp [World.drew]) hab hfb⟩
        have zo := o3.size
        exact below_set (below_set (below_set (below_set (o3.trans ow') zo _) zo _) zo _) zo _
    case rest =>
      obtain ⟨cb, ab, fb, rfl, hcb, BC, BR, o4, hR⟩ := hcut
      have HR : Hid _ := hR
      clear hR
      have bc := BC.cell
      have zc := BC.lt
      clear B1 B2 x0 o3
      go_wp2_with fail
      clear bc
      have O5 := Onw.alloc wc (Obj.cells #[.int .i64 2, .func (Fn.func 18) #[.agg #[.slice u.fa u.nf u.fc, .slice (some ⟨ab, 0, none⟩) u.nf u.nf, .slice none 0 0, .slice none 0 0]] #[], .int .i64 3, .func (Fn.func 19) #[.agg #[.slice u.fa u.nf u.fc, .slice (some ⟨ab, 0, none⟩) u.nf u.nf, .slice none 0 0, .slice none 0 0]] #[], .int .i64 4, .func (Fn.func 20) #[.agg #[.slice u.fa u.nf u.fc, .slice (some ⟨ab, 0, none⟩) u.nf u.nf, .slice none 0 0, .slice none 0 0]] #[], .int .i64 5, .func (Fn.func 21) #[.agg #[.slice u.fa u.nf u.fc, .slice (some ⟨ab, 0, none⟩) u.nf u.nf, .slice none 0 0, .slice none 0 0]] #[]] 48)
      have hru : ∀ k, k < 4 → (wc.alloc (Obj.cells #[.int .i64 2, .func (Fn.func 18) #[.agg #[.slice u.fa u.nf u.fc, .slice (some ⟨ab, 0, none⟩) u.nf u.nf, .slice none 0 0, .slice none 0 0]] #[], .int .i64 3, .func (Fn.func 19) #[.agg #[.slice u.fa u.nf u.fc, .slice (some ⟨ab, 0, none⟩) u.nf u.nf, .slice none 0 0, .slice none 0 0]] #[], .int .i64 4, .func (Fn.func 20) #[.agg #[.slice u.fa u.nf u.fc, .slice (some ⟨ab, 0, none⟩) u.nf u.nf, .slice none 0 0, .slice none 0 0]] #[], .int .i64 5, .func (Fn.func 21) #[.agg #[.slice u.fa u.nf u.fc, .slice (some ⟨ab, 0, none⟩) u.nf u.nf, .slice none 0 0, .slice none 0 0]] #[]] 48)).cell? ⟨wc.heap.size, k * 2, none⟩ = some (.int .i64 (code1 k)) ∧ (wc.alloc (Obj.cells #[.int .i64 2, .func (Fn.func 18) #[.agg #[.slice u.fa u.nf u.fc, .slice (some ⟨ab, 0, none⟩) u.nf u.nf, .slice none 0 0, .slice none 0 0]] #[], .int .i64 3, .func (Fn.func 19) #[.agg #[.slice u.fa u.nf u.fc, .slice (some ⟨ab, 0, none⟩) u.nf u.nf, .slice none 0 0, .slice none 0 0]] #[], .int .i64 4, .func (Fn.func 20) #[.agg #[.slice u.fa u.nf u.fc, .slice (some ⟨ab, 0, none⟩) u.nf u.nf, .slice none 0 0, .slice none 0 0]] #[], .int .i64 5, .func (Fn.func 21) #[.agg #[.slice u.fa u.nf u.fc, .slice (some ⟨ab, 0, none⟩) u.nf u.nf, .slice none 0 0, .slice none 0 0]] #[]] 48)).cell? ⟨wc.heap.size, k * 2 + 1, none⟩ = some (.func (Fn.func (fid1 k)) #[.agg #[.slice u.fa u.nf u.fc, .slice (some ⟨ab, 0, none⟩) u.nf u.nf, .slice none 0 0, .slice none 0 0]] #[]) := fun k hk => by
        have cs : k = 0 ∨ k = 1 ∨ k = 2 ∨ k = 3 := by omega
        rcases cs with rfl | rfl | rfl | rfl
        all_goals exact ⟨by rw [(Blk.new wc 48 #[.int .i64 2, .func (Fn.func 18) #[.agg #[.slice u.fa u.nf u.fc, .slice (some ⟨ab, 0, none⟩) u.nf u.nf, .slice none 0 0, .slice none 0 0]] #[], .int .i64 3, .func (Fn.func 19) #[.agg #[.slice u.fa u.nf u.fc, .slice (some ⟨ab, 0, none⟩) u.nf u.nf, .slice none 0 0, .slice none 0 0]] #[], .int .i64 4, .func (Fn.func 20) #[.agg #[.slice u.fa u.nf u.fc, .slice (some ⟨ab, 0, none⟩) u.nf u.nf, .slice none 0 0, .slice none 0 0]] #[], .int .i64 5, .func (Fn.func 21) #[.agg #[.slice u.fa u.nf u.fc, .slice (some ⟨ab, 0, none⟩) u.nf u.nf, .slice none 0 0, .slice none 0 0]] #[]]).cell]; rfl, by rw [(Blk.new wc 48 #[.int .i64 2, .func (Fn.func 18) #[.agg #[.slice u.fa u.nf u.fc, .slice (some ⟨ab, 0, none⟩) u.nf u.nf, .slice none 0 0, .slice none 0 0]] #[], .int .i64 3, .func (Fn.func 19) #[.agg #[.slice u.fa u.nf u.fc, .slice (some ⟨ab, 0, none⟩) u.nf u.nf, .slice none 0 0, .slice none 0 0]] #[], .int .i64 4, .func (Fn.func 20) #[.agg #[.slice u.fa u.nf u.fc, .slice (some ⟨ab, 0, none⟩) u.nf u.nf, .slice none 0 0, .slice none 0 0]] #[], .int .i64 5, .func (Fn.func 21) #[.agg #[.slice u.fa u.nf u.fc, .slice (some ⟨ab, 0, none⟩) u.nf u.nf, .slice none 0 0, .slice none 0 0]] #[]]).cell]; rfl⟩
      have BC5 := BC.onw O5
      have BR5 := BR.onw O5
      have K5 : Kept (fun x => x < wc.heap.size ∧ x ≠ cb) wc _ := kept_onw O5 fun x hx => hx.1
      have hF5 := HR.out _ K5
      have s5 := O5.size
      have o5 := o4.trans O5
      refine (firstFault_any fid1 code1 4 4 wc.heap.size u.fa u.nf u.fc (some ⟨ab, 0, none⟩) none none u.nf 0 0 u.nf 0 0 (rules1 u.toUD) _ (by omega) hn run1 hru (call1 u ab fb none none 0 0 0 0 _ hn HS.out (UM.At.onw o5 HA.out) hF5 P3.out)).mono ?_
      rintro e w6 ⟨rfl, O6⟩
      have BC6 := BC5.onw O6
      have BR6 := BR5.onw O6
      have K6 : Kept (fun x => x < wc.heap.size ∧ x ≠ cb) wc w6 := K5.trans (kept_onw O6 fun x hx => Nat.lt_of_lt_of_le hx.1 s5)
      have s6 : wc.heap.size ≤ w6.heap.size := Nat.le_trans s5 O6.size
      have o6 := o5.trans O6
      clear hru O5 BC5 BR5 hF5 o5 O6 BC BR o4 K5 s5
      have zc6 := BC6.lt
      have zr6 := BR6.lt
      cases hff : ffK code1 (rules1 u.toUD) u.nf 0 4 with
      | some x =>
        have hff' : ffK code1 (rules1 u.toUD) u.toUD.nf 0 4 = some x := hff
        have fin : Hid (implB u.toUD H L = some x) := by show _ = _; unfold implB; rw [hsz, hff']; rfl
        clear hff'
        have hx0 : (x.code != 0) = true := by
          have := ffK_code (fun k => by unfold code1; omega) hff
          simpa using this
        have br := BR6.cell
        have fr := BR6.free
        clear hff
        simp only [fval]
        go_wp2_with fail
        have br3 := ((((BR6.set 0 (.int .i64 x.code)).set 1 (.int .i64 x.fn)).set 2 (.int .i64 x.node)).onw (Onw.alloc _ (Obj.cells #[.int .i64 x.code, .int .i64 x.fn, .int .i64 x.node] 27))).cell
        simp only [List.setIfInBounds_toArray, List.set_cons_zero, List.set_cons_succ] at br3
        exact bodyPost_ret (v := .agg #[.int .i64 x.code, .int .i64 x.fn, .int .i64 x.node]) (by simp only [results, Tryz.results7]; simp [go_sem, br3]) rfl ⟨retF fin.out, Below.trans (below_set (below_set (below_set o6 (by omega) _) (by omega) _) (by omega) _) (Below.mono (Onw.alloc _ _) (by simp only [World.size_setCell]; exact o6.size))⟩
      | none =>
        have hff' : ffK code1 (rules1 u.toUD) u.toUD.nf 0 4 = none := hff
        have fin : Hid (implB u.toUD H L = ffK code2 (rules2 u.toUD H L) u.toUD.nf 0 4) := by show _ = _; unfold implB; rw [hsz, hff']; rfl
        have FA : Hid _ := PF.out hsz hff
        clear hff hff'
        simp only [fval]
        have bc := BC6.cell
        have fc := BC6.free
        have OX := Onw.alloc w6 (Obj.cells #[.int .i64 0, .int .i64 0, .int .i64 0] 27)
        go_wp2_with fail
        have BC7 := BC6.onw OX
        have BR7 := BR6.onw OX
        have o7 := o6.trans OX
        have K7 : Kept (fun x => x < wc.heap.size ∧ x ≠ cb) wc (w6.alloc (Obj.cells #[.int .i64 0, .int .i64 0, .int .i64 0] 27)) := K6.trans (kept_onw OX fun x hx => Nat.lt_of_lt_of_le hx.1 s6)
        have s7 := Nat.le_trans s6 OX.size
        have zc7 := BC7.lt
        clear BC6 BR6 o6 K6 s6 OX bc fc
        generalize w6.alloc (Obj.cells #[.int .i64 0, .int .i64 0, .int .i64 0] 27) = w7 at *
        refine (sightsOf_any u ab fb H L _ hn HS.out (fun f hf => (HC.out f hf).2) (fun f hf => (FA.out f hf).1) (UM.At.onw o7 HA.out) (HR.out _ K7)).mono ?_
        rintro e w8 ⟨sa, sb, rfl, O8, hS, hsa, hsb⟩
        have BC8 := BC7.onw O8
        have BR8 := BR7.onw O8
        have o8 := o7.trans O8
        have K8 : Kept (fun x => x < wc.heap.size ∧ x ≠ cb) wc w8 := K7.trans (kept_onw O8 fun x hx => Nat.lt_of_lt_of_le hx.1 s7)
        have s8 := Nat.le_trans s7 O8.size
        have bc := BC8.cell
        have fc := BC8.free
        have zc8 := BC8.lt
        go_wp2_with fail
        have BC9 := BC8.set 2 (.slice (some ⟨sa, 0, none⟩) u.nf u.nf)
        simp only [List.setIfInBounds_toArray, List.set_cons_zero, List.set_cons_succ] at BC9
        have KX : Kept (· ≠ cb) w8 (w8.setCell ⟨cb, 2, none⟩ (.slice (some ⟨sa, 0, none⟩) u.nf u.nf)) := Kept.set (Kept.refl _ _) (by simp) _
        have K9 : Kept (fun x => x < wc.heap.size ∧ x ≠ cb) wc (w8.setCell ⟨cb, 2, none⟩ (.slice (some ⟨sa, 0, none⟩) u.nf u.nf)) := K8.trans fun x hx => KX x hx.2
        have o9 : Onw w (w8.setCell ⟨cb, 2, none⟩ (.slice (some ⟨sa, 0, none⟩) u.nf u.nf)) := below_set o8 (by omega) _
        have BR9 := BR8.kept KX (show w.heap.size + 1 ≠ cb by omega)
        have hS9 := hS.kept KX (show sa ≠ cb by omega) (fun f hf => show sb f ≠ cb by have := hsb f hf; omega)
        have s9 : wc.heap.size ≤ (w8.setCell ⟨cb, 2, none⟩ (.slice (some ⟨sa, 0, none⟩) u.nf u.nf)).heap.size := by rw [World.size_setCell]; exact s8
        clear BC7 BR7 o7 K7 BC8 BR8 o8 K8 O8 hS bc fc KX s7 s8
        generalize w8.setCell ⟨cb, 2, none⟩ (.slice (some ⟨sa, 0, none⟩) u.nf u.nf) = w9 at *
        refine (makersOf_any u ab fb _ hn HS.out (fun f hf => (FA.out f hf).1.nk) (fun f hf n hn' h => ((FA.out f hf).1.r1 n hn' (Or.inr h)).1) (UM.At.onw o9 HA.out) (HR.out _ K9)).mono ?_
        rintro e w10 ⟨mb, rfl, O10, hM, hmb⟩
        have BC10 := BC9.onw O10
        have BR10 := BR9.onw O10
        have hS10 := hS9.onw O10
        have o10 := o9.trans O10
        have K10 : Kept (fun x => x < wc.heap.size ∧ x ≠ cb) wc w10 := K9.trans (kept_onw O10 fun x hx => Nat.lt_of_lt_of_le hx.1 s9)
        have zc9 := BC9.lt
        have zc10 := BC10.lt
        have bc := BC10.cell
        have fc := BC10.free
        go_wp2_with fail
        have BC11 := BC10.set 3 (.slice (some ⟨mb, 0, none⟩) u.nf u.nf)
        simp only [List.setIfInBounds_toArray, List.set_cons_zero, List.set_cons_succ] at BC11
        have KY : Kept (· ≠ cb) w10 (w10.setCell ⟨cb, 3, none⟩ (.slice (some ⟨mb, 0, none⟩) u.nf u.nf)) := Kept.set (Kept.refl _ _) (by simp) _
        have K11 : Kept (fun x => x < wc.heap.size ∧ x ≠ cb) wc (w10.setCell ⟨cb, 3, none⟩ (.slice (some ⟨mb, 0, none⟩) u.nf u.nf)) := K10.trans fun x hx => KY x hx.2
        have o11 : Onw w (w10.setCell ⟨cb, 3, none⟩ (.slice (some ⟨mb, 0, none⟩) u.nf u.nf)) := below_set o10 (by omega) _
        have BR11 := BR10.kept KY (show w.heap.size + 1 ≠ cb by omega)
        have hS11 := hS10.kept KY (show sa ≠ cb by omega) (fun f hf => show sb f ≠ cb by have := hsb f hf; omega)
        have hM11 := hM.kept KY (show mb ≠ cb by omega)
        have hF11 := HR.out _ K11
        clear BC9 BR9 o9 K9 BC10 BR10 o10 K10 O10 hS9 hS10 hM bc fc KY
        have zz : (w10.setCell ⟨cb, 3, none⟩ (.slice (some ⟨mb, 0, none⟩) u.nf u.nf)).heap.size = w10.heap.size := World.size_setCell _ _ _
        generalize w10.setCell ⟨cb, 3, none⟩ (.slice (some ⟨mb, 0, none⟩) u.nf u.nf) = w11 at *
        have O12 := Onw.alloc w11 (Obj.cells #[.int .i64 6, .func (Fn.func 24) #[.agg #[.slice u.fa u.nf u.fc, .slice (some ⟨ab, 0, none⟩) u.nf u.nf, .slice (some ⟨sa, 0, none⟩) u.nf u.nf, .slice (some ⟨mb, 0, none⟩) u.nf u.nf]] #[], .int .i64 7, .func (Fn.func 25) #[.agg #[.slice u.fa u.nf u.fc, .slice (some ⟨ab, 0, none⟩) u.nf u.nf, .slice (some ⟨sa, 0, none⟩) u.nf u.nf, .slice (some ⟨mb, 0, none⟩) u.nf u.nf]] #[], .int .i64 8, .func (Fn.func 26) #[.agg #[.slice u.fa u.nf u.fc, .slice (some ⟨ab, 0, none⟩) u.nf u.nf, .slice (some ⟨sa, 0, none⟩) u.nf u.nf, .slice (some ⟨mb, 0, none⟩) u.nf u.nf]] #[], .int .i64 9, .func (Fn.func 27) #[.agg #[.slice u.fa u.nf u.fc, .slice (some ⟨ab, 0, none⟩) u.nf u.nf, .slice (some ⟨sa, 0, none⟩) u.nf u.nf, .slice (some ⟨mb, 0, none⟩) u.nf u.nf]] #[]] 48)
        have hru : ∀ k, k < 4 → (w11.alloc (Obj.cells #[.int .i64 6, .func (Fn.func 24) #[.agg #[.slice u.fa u.nf u.fc, .slice (some ⟨ab, 0, none⟩) u.nf u.nf, .slice (some ⟨sa, 0, none⟩) u.nf u.nf, .slice (some ⟨mb, 0, none⟩) u.nf u.nf]] #[], .int .i64 7, .func (Fn.func 25) #[.agg #[.slice u.fa u.nf u.fc, .slice (some ⟨ab, 0, none⟩) u.nf u.nf, .slice (some ⟨sa, 0, none⟩) u.nf u.nf, .slice (some ⟨mb, 0, none⟩) u.nf u.nf]] #[], .int .i64 8, .func (Fn.func 26) #[.agg #[.slice u.fa u.nf u.fc, .slice (some ⟨ab, 0, none⟩) u.nf u.nf, .slice (some ⟨sa, 0, none⟩) u.nf u.nf, .slice (some ⟨mb, 0, none⟩) u.nf u.nf]] #[], .int .i64 9, .func (Fn.func 27) #[.agg #[.slice u.fa u.nf u.fc, .slice (some ⟨ab, 0, none⟩) u.nf u.nf, .slice (some ⟨sa, 0, none⟩) u.nf u.nf, .slice (some ⟨mb, 0, none⟩) u.nf u.nf]] #[]] 48)).cell? ⟨w10.heap.size, k * 2, none⟩ = some (.int .i64 (code2 k)) ∧ (w11.alloc (Obj.cells #[.int .i64 6, .func (Fn.func 24) #[.agg #[.slice u.fa u.nf u.fc, .slice (some ⟨ab, 0, none⟩) u.nf u.nf, .slice (some ⟨sa, 0, none⟩) u.nf u.nf, .slice (some ⟨mb, 0, none⟩) u.nf u.nf]] #[], .int .i64 7, .func (Fn.func 25) #[.agg #[.slice u.fa u.nf u.fc, .slice (some ⟨ab, 0, none⟩) u.nf u.nf, .slice (some ⟨sa, 0, none⟩) u.nf u.nf, .slice (some ⟨mb, 0, none⟩) u.nf u.nf]] #[], .int .i64 8, .func (Fn.func 26) #[.agg #[.slice u.fa u.nf u.fc, .slice (some ⟨ab, 0, none⟩) u.nf u.nf, .slice (some ⟨sa, 0, none⟩) u.nf u.nf, .slice (some ⟨mb, 0, none⟩) u.nf u.nf]] #[], .int .i64 9, .func (Fn.func 27) #[.agg #[.slice u.fa u.nf u.fc, .slice (some ⟨ab, 0, none⟩) u.nf u.nf, .slice (some ⟨sa, 0, none⟩) u.nf u.nf, .slice (some ⟨mb, 0, none⟩) u.nf u.nf]] #[]] 48)).cell? ⟨w10.heap.size, k * 2 + 1, none⟩ = some (.func (Fn.func (fid2 k)) #[.agg #[.slice u.fa u.nf u.fc, .slice (some ⟨ab, 0, none⟩) u.nf u.nf, .slice (some ⟨sa, 0, none⟩) u.nf u.nf, .slice (some ⟨mb, 0, none⟩) u.nf u.nf]] #[]) := fun k hk => by
          rw [← zz]
          have cs : k = 0 ∨ k = 1 ∨ k = 2 ∨ k = 3 := by omega
          rcases cs with rfl | rfl | rfl | rfl
          all_goals exact ⟨by rw [(Blk.new w11 48 #[.int .i64 6, .func (Fn.func 24) #[.agg #[.slice u.fa u.nf u.fc, .slice (some ⟨ab, 0, none⟩) u.nf u.nf, .slice (some ⟨sa, 0, none⟩) u.nf u.nf, .slice (some ⟨mb, 0, none⟩) u.nf u.nf]] #[], .int .i64 7, .func (Fn.func 25) #[.agg #[.slice u.fa u.nf u.fc, .slice (some ⟨ab, 0, none⟩) u.nf u.nf, .slice (some ⟨sa, 0, none⟩) u.nf u.nf, .slice (some ⟨mb, 0, none⟩) u.nf u.nf]] #[], .int .i64 8, .func (Fn.func 26) #[.agg #[.slice u.fa u.nf u.fc, .slice (some ⟨ab, 0, none⟩) u.nf u.nf, .slice (some ⟨sa, 0, none⟩) u.nf u.nf, .slice (some ⟨mb, 0, none⟩) u.nf u.nf]] #[], .int .i64 9, .func (Fn.func 27) #[.agg #[.slice u.fa u.nf u.fc, .slice (some ⟨ab, 0, none⟩) u.nf u.nf, .slice (some ⟨sa, 0, none⟩) u.nf u.nf, .slice (some ⟨mb, 0, none⟩) u.nf u.nf]] #[]]).cell]; rfl, by rw [(Blk.new w11 48 #[.int .i64 6, .func (Fn.func 24) #[.agg #[.slice u.fa u.nf u.fc, .slice (some ⟨ab, 0, none⟩) u.nf u.nf, .slice (some ⟨sa, 0, none⟩) u.nf u.nf, .slice (some ⟨mb, 0, none⟩) u.nf u.nf]] #[], .int .i64 7, .func (Fn.func 25) #[.agg #[.slice u.fa u.nf u.fc, .slice (some ⟨ab, 0, none⟩) u.nf u.nf, .slice (some ⟨sa, 0, none⟩) u.nf u.nf, .slice (some ⟨mb, 0, none⟩) u.nf u.nf]] #[], .int .i64 8, .func (Fn.func 26) #[.agg #[.slice u.fa u.nf u.fc, .slice (some ⟨ab, 0, none⟩) u.nf u.nf, .slice (some ⟨sa, 0, none⟩) u.nf u.nf, .slice (some ⟨mb, 0, none⟩) u.nf u.nf]] #[], .int .i64 9, .func (Fn.func 27) #[.agg #[.slice u.fa u.nf u.fc, .slice (some ⟨ab, 0, none⟩) u.nf u.nf, .slice (some ⟨sa, 0, none⟩) u.nf u.nf, .slice (some ⟨mb, 0, none⟩) u.nf u.nf]] #[]]).cell]; rfl⟩
        have o12 := o11.trans O12
        have BR12 := BR11.onw O12
        refine (firstFault_any fid2 code2 4 4 w10.heap.size u.fa u.nf u.fc (some ⟨ab, 0, none⟩) (some ⟨sa, 0, none⟩) (some ⟨mb, 0, none⟩) u.nf u.nf u.nf u.nf u.nf u.nf (rules2 u.toUD H L) _ (by omega) hn run2 hru (call2 u ab sa mb fb sb H L _ hn HS.out (UM.At.onw o12 HA.out) (hF11.onw O12) (hS11.onw O12) (hM11.onw O12) (fun f hf => (FA.out f hf).1) (fun f hf => (FA.out f hf).2) P6.out)).mono ?_
        rintro e w13 ⟨rfl, O13⟩
        have BR13 := BR12.onw O13
        have o13 := o12.trans O13
        have br := BR13.cell
        have fr := BR13.free
        clear hru hS11 hM11 hF11 BR12 BR11 BC11 O12 O13 o11 o12 K11
        cases hf2 : ffK code2 (rules2 u.toUD H L) u.nf 0 4 with
        | none =>
          have hf2' : ffK code2 (rules2 u.toUD H L) u.toUD.nf 0 4 = none := hf2
          have fin2 : Hid (implB u.toUD H L = none) := by show _ = _; rw [fin.out, hf2']
          clear hf2 hf2'
          simp only [fval]
          go_wp2_with fail
          have br3 := (((BR13.set 0 (.int .i64 0)).set 1 (.int .i64 0)).set 2 (.int .i64 0)).cell
          simp only [List.setIfInBounds_toArray, List.set_cons_zero, List.set_cons_succ] at br3
          exact bodyPost_ret (v := .agg #[.int .i64 0, .int .i64 0, .int .i64 0]) (by simp only [results, Tryz.results7]; simp [go_sem, br3]) rfl ⟨retN fin2.out, below_set (below_set (below_set o13 (by omega) _) (by omega) _) (by omega) _⟩
        | some x =>
          have hf2' : ffK code2 (rules2 u.toUD H L) u.toUD.nf 0 4 = some x := hf2
          have fin2 : Hid (implB u.toUD H L = some x) := by show _ = _; rw [fin.out, hf2']
          clear hf2 hf2'
          simp only [fval]
          go_wp2_with fail
          have br3 := (((BR13.set 0 (.int .i64 x.code)).set 1 (.int .i64 x.fn)).set 2 (.int .i64 x.node)).cell
          simp only [List.setIfInBounds_toArray, List.set_cons_zero, List.set_cons_succ] at br3
          exact bodyPost_ret (v := .agg #[.int .i64 x.code, .int .i64 x.fn, .int .i64 x.node]) (by simp only [results, Tryz.results7]; simp [go_sem, br3]) rfl ⟨retF fin2.out, below_set (below_set (below_set o13 (by omega) _) (by omega) _) (by omega) _⟩
  · have b2 := B2.cell
    have f2 := B2.free
    have fin : Hid (implB u.toUD H L = some ⟨1, 0, 0⟩) := by show _ = _; unfold implB; rw [hsz]; rfl
    go_wp2_with fail
    have br3 := (((B2.set 0 (.int .i64 1)).set 1 (.int .i64 0)).set 2 (.int .i64 0)).cell
    simp only [List.setIfInBounds_toArray, List.set_cons_zero, List.set_cons_succ] at br3
    exact bodyPost_ret (v := .agg #[.int .i64 1, .int .i64 0, .int .i64 0]) (by simp [results, Tryz.results7, go_sem, br3]) rfl ⟨retF fin.out, below_set (below_set (below_set o3 (by omega) _) (by omega) _) (by omega) _⟩
end Go.Proofs.YtnokgdgikdgaeaaGreat

namespace Go.Proofs.YtnokgdgikdgaeaaGreat
open Go.RowKit

theorem onw_drewN {w w1 : World} (h : Onw w w1) (n : Nat) : Onw w (w1.drewN n) := below_drewN h n

set_option maxHeartbeats 400000 in
theorem eqIntS_same (a a' : Option Addr) (n c c' : Nat) (f : Nat → Int) (w : World) (hn : n ≤ 1048576) (ha : IntsAt w a n f) (ha' : IntsAt w a' n f) :
    Calls Tryz.prog 86 #[.slice a n c, .slice a' n c'] w fun e w' => e = .returned (.bool true) ∧ Onw w w' := by
  go_enter Tryz.func86, Tryz.ntmps86
  go_wp2
  go_loopw [5] (fun i wr => ∃ k : Nat, k ≤ n ∧ i = .int .i64 k ∧ Onw w wr) (fun i _ => n - (intOf i).toNat)
  case atStart => exact ⟨0, Nat.zero_le _, rfl, Onw.refl _⟩
  case round =>
    obtain ⟨k, hk, rfl, hb⟩ := hrel
    by_cases hlt : k < n
    · obtain ⟨b, off, rfl, hc⟩ := ha.onw hb (by omega)
      obtain ⟨b', off', rfl, hc'⟩ := ha'.onw hb (by omega)
      have h1 := hc k hlt
      have h2 := hc' k hlt
      have hi : (k : Int) < (n : Int) := by omega
      have hi0 : (0 : Int) ≤ (k : Int) := by omega
      clear hc hc'
      go_wp2
      go_quiet (fail)
      go_wp2
      go_roundw
      case rel => exact ⟨k + 1, by omega, by go_num, onw_drewN hb _⟩
      case measure => simp [intOf]; omega
    · go_wp2
      go_ret
      exact ⟨rfl, hb⟩
set_option maxHeartbeats 400000 in
theorem eqStringS_same (a a' : Option Addr) (n c c' : Nat) (f : Nat → ByteArray) (w : World) (hn : n ≤ 1048576) (ha : StrsAt w a n f) (ha' : StrsAt w a' n f) :
    Calls Tryz.prog 67 #[.slice a n c, .slice a' n c'] w fun e w' => e = .returned (.bool true) ∧ Onw w w' := by
  go_enter Tryz.func67, Tryz.ntmps67
  go_wp2
  go_loopw [5] (fun i wr => ∃ k : Nat, k ≤ n ∧ i = .int .i64 k ∧ Onw w wr) (fun i _ => n - (intOf i).toNat)
  case atStart => exact ⟨0, Nat.zero_le _, rfl, Onw.refl _⟩
  case round =>
    obtain ⟨k, hk, rfl, hb⟩ := hrel
    by_cases hlt : k < n
    · obtain ⟨b, off, rfl, hc⟩ := ha.onw hb (by omega)
      obtain ⟨b', off', rfl, hc'⟩ := ha'.onw hb (by omega)
      have h1 := hc k hlt
      have h2 := hc' k hlt
      have hi : (k : Int) < (n : Int) := by omega
      have hi0 : (0 : Int) ≤ (k : Int) := by omega
      clear hc hc'
      go_wp2
      go_quiet (fail)
      go_wp2
      go_roundw
      case rel => exact ⟨k + 1, by omega, by go_num, onw_drewN hb _⟩
      case measure => simp [intOf]; omega
    · go_wp2
      go_ret
      exact ⟨rfl, hb⟩

set_option maxHeartbeats 400000 in
theorem eqUp_same (l : Bool) (i : Int) (w : World) :
    Calls Tryz.prog 80 #[.agg #[.bool l, .int .i64 i], .agg #[.bool l, .int .i64 i]] w fun e w' => e = .returned (.bool true) ∧ Onw w w' := by
  go_enter Tryz.func80, Tryz.ntmps80
  go_wp2
  go_ret
  exact ⟨rfl, (Onw.alloc _ _).trans (Onw.alloc _ _)⟩

set_option maxHeartbeats 400000 in
theorem eqFault_same (i j k : Int) (w : World) :
    Calls Tryz.prog 8 #[.agg #[.int .i64 i, .int .i64 j, .int .i64 k], .agg #[.int .i64 i, .int .i64 j, .int .i64 k]] w fun e w' => e = .returned (.bool true) ∧ Onw w w' := by
  go_enter Tryz.func8, Tryz.ntmps8
  go_wp2
  go_ret
  exact ⟨rfl, (Onw.alloc _ _).trans (Onw.alloc _ _)⟩

set_option maxHeartbeats 400000 in
theorem eqUpS_same (a a' : Option Addr) (n c c' : Nat) (l : Nat → Bool) (f : Nat → Int) (w : World) (hn : n ≤ 1048576) (ha : UpsAt w a n l f) (ha' : UpsAt w a' n l f) :
    Calls Tryz.prog 68 #[.slice a n c, .slice a' n c'] w fun e w' => e = .returned (.bool true) ∧ Onw w w' := by
  go_enter Tryz.func68, Tryz.ntmps68
  go_wp2
  go_loopw [5] (fun i wr => ∃ k : Nat, k ≤ n ∧ i = .int .i64 k ∧ Onw w wr) (fun i _ => n - (intOf i).toNat)
  case atStart => exact ⟨0, Nat.zero_le _, rfl, Onw.refl _⟩
  case round =>
    obtain ⟨k, hk, rfl, hb⟩ := hrel
    by_cases hlt : k < n
    · obtain ⟨b, off, rfl, hc⟩ := ha.onw hb (by omega)
      obtain ⟨b', off', rfl, hc'⟩ := ha'.onw hb (by omega)
      obtain ⟨h1, h2⟩ := hc k hlt
      obtain ⟨h3, h4⟩ := hc' k hlt
      have hi : (k : Int) < (n : Int) := by omega
      have hi0 : (0 : Int) ≤ (k : Int) := by omega
      clear hc hc'
      go_wp2
      go_region_with (go_at_call 80; refine (eqUp_same _ _ _).mono ?_; rintro e w1 ⟨rfl, hb1⟩)
      all_goals
        go_wp2
        go_roundw
        case rel => exact ⟨k + 1, by omega, by go_num, Onw.trans (Below.drew hb) hb1⟩
        case measure => simp [intOf]; omega
    · go_wp2
      go_ret
      exact ⟨rfl, hb⟩
end Go.Proofs.YtnokgdgikdgaeaaGreat

namespace Go.Proofs.YtnokgdgikdgaeaaGreat
open Go.RowKit

theorem order_self (x : Nat) : FloatKind.f64.format.order x x = none ∨ FloatKind.f64.format.order x x = some .eq := by
  unfold Ieee.Format.order
  cases FloatKind.f64.format.read x with
  | nan => exact .inl rfl
  | infinity s => exact .inr (by simp [Ieee.Datum.order])
  | number s m i => exact .inr (by simp [Ieee.Datum.order])

theorem read_one : ∃ m i, m ≠ 0 ∧ FloatKind.f64.format.read 4607182418800017408 = .number false m i := ⟨4503599627370496, -52, by decide, by kernel_rfl⟩

theorem div_one (x : Nat) (h : FloatKind.f64.format.order x x = some .eq) : ∃ r, floatBits .quo .f64 4607182418800017408 x = some r := by
  obtain ⟨m, i, hm, ho⟩ := read_one
  show ∃ r, FloatKind.f64.format.div 4607182418800017408 x = some r
  unfold Ieee.Format.div
  rw [ho]
  unfold Ieee.Format.order at h
  cases hx : FloatKind.f64.format.read x with
  | nan => rw [hx] at h; simp [Ieee.Datum.order] at h
  | infinity s => exact ⟨_, rfl⟩
  | number s n j =>
    simp only [Ieee.Datum.quotient, hm, if_false]
    split <;> exact ⟨_, rfl⟩

set_option maxHeartbeats 400000 in
theorem sameFloat_same (x : Nat) (w : World) :
    Calls Tryz.prog 85 #[.float .f64 x, .float .f64 x] w fun e w' => e = .returned (.bool true) ∧ Onw w w' := by
  rcases order_self x with h | h
  · have h1 : (FloatKind.f64.format.order x x != some .eq) = true := by rw [h]; rfl
    go_enter Tryz.func85, Tryz.ntmps85
    go_wp2
    go_ret
    exact ⟨rfl, Onw.refl _⟩
  · have h1 : (FloatKind.f64.format.order x x != some .eq) = false := by rw [h]; rfl
    have h2 : (FloatKind.f64.format.order x x == some .eq) = true := by rw [h]; rfl
    obtain ⟨r, hr⟩ := div_one x h
    have hd := fun w => run_float_arith (P := Tryz.prog) w .quo 69 .f64 4607182418800017408 x r hr
    clear h hr
    by_cases hz : (FloatKind.f64.format.order x 0 == some .eq) = true
    · go_enter Tryz.func85, Tryz.ntmps85
      go_wp2
      go_ret
      exact ⟨by simp, Onw.refl _⟩
    · have hz' : (FloatKind.f64.format.order x 0 == some .eq) = false := by simpa using hz
      clear hz
      go_enter Tryz.func85, Tryz.ntmps85
      go_wp2
      go_ret
      exact ⟨rfl, Onw.refl _⟩

set_option maxHeartbeats 1000000 in
theorem eqNode_same (d : ND) (ra ra' ka ka' : Option Addr) (rc rc' kc kc' : Nat) (w : World) (hr : d.nr ≤ 1048576) (hk : d.nk ≤ 1048576) (a1 : IntsAt w ra d.nr d.rf) (a2 : IntsAt w ra' d.nr d.rf) (a3 : IntsAt w ka d.nk d.kd) (a4 : IntsAt w ka' d.nk d.kd) :
    Calls Tryz.prog 81 #[.agg #[.int .i64 d.kind, .int .i64 d.line, .int .i64 d.op, .int .i64 d.num, .float .f64 d.flt, .string d.str, .slice ra d.nr rc, .slice ka d.nk kc], .agg #[.int .i64 d.kind, .int .i64 d.line, .int .i64 d.op, .int .i64 d.num, .float .f64 d.flt, .string d.str, .slice ra' d.nr rc', .slice ka' d.nk kc']] w fun e w' => e = .returned (.bool true) ∧ Onw w w' := by
  go_enter Tryz.func81, Tryz.ntmps81
  go_wp2_with fail
  refine (sameFloat_same _ _).mono ?_
  rintro e w1 ⟨rfl, hb1⟩
  have B0 := Blk.onw ((Onw.alloc _ _).trans hb1) (Blk.new w 71 _)
  have B1 := Blk.onw hb1 (Blk.new _ 71 _)
  have ob : Onw w w1 := ((Onw.alloc _ _).trans (Onw.alloc _ _)).trans hb1
  simp only [World.size_alloc] at B1
  clear hb1
  have c0 := B0.cell
  have c1 := B1.cell
  go_wp2_with fail
  refine (eqIntS_same _ _ _ _ _ d.rf _ hr (by exact a1.onw ob) (by exact a2.onw ob)).mono ?_
  rintro e w2 ⟨rfl, hb2⟩
  have ob2 := ob.trans hb2
  have D0 := B0.onw hb2
  have D1 := B1.onw hb2
  clear c0 c1 B0 B1 ob hb2
  have c0 := D0.cell
  have c1 := D1.cell
  go_wp2_with fail
  refine (eqIntS_same _ _ _ _ _ d.kd _ hk (by exact a3.onw ob2) (by exact a4.onw ob2)).mono ?_
  rintro e w3 ⟨rfl, hb3⟩
  clear c0 c1
  go_wp2_with fail
  go_ret
  exact ⟨rfl, ob2.trans hb3⟩

set_option maxHeartbeats 1000000 in
theorem eqNodeS_same (a a' : Option Addr) (n c c' : Nat) (nm nm' : Nat → NM) (w : World) (hn : n ≤ 1048576) (hs : ∀ i, i < n → (nm i).nr ≤ 1048576 ∧ (nm i).nk ≤ 1048576) (hd : ∀ i, (nm' i).toND = (nm i).toND) (ha : NodesAt w a n nm) (ha' : NodesAt w a' n nm') :
    Calls Tryz.prog 69 #[.slice a n c, .slice a' n c'] w fun e w' => e = .returned (.bool true) ∧ Onw w w' := by
  have HD : Hid _ := hd
  clear hd
  go_enter Tryz.func69, Tryz.ntmps69
  go_wp2
  go_loopw [5] (fun i wr => ∃ k : Nat, k ≤ n ∧ i = .int .i64 k ∧ Onw w wr) (fun i _ => n - (intOf i).toNat)
  case atStart => exact ⟨0, Nat.zero_le _, rfl, Onw.refl _⟩
  case round =>
    obtain ⟨k, hk, rfl, hb⟩ := hrel
    by_cases hlt : k < n
    · obtain ⟨b, off, rfl, hc⟩ := (ha.onw hb).1 (by omega)
      obtain ⟨b', off', rfl, hc'⟩ := (ha'.onw hb).1 (by omega)
      obtain ⟨h0, h1, h2, h3, h4, h5, h6, h7⟩ := hc k hlt
      obtain ⟨g0, g1, g2, g3, g4, g5, g6, g7⟩ := hc' k hlt
      obtain ⟨s1, s2⟩ := hs k hlt
      have l1 := (ha.2 k hlt).onw hb
      have l2 := (ha'.2 k hlt).onw hb
      have e := HD.out k
      clear hc hc' hs
      generalize nm k = M at *
      generalize nm' k = M' at *
      obtain ⟨d, ra, rc, ka, kc⟩ := M
      obtain ⟨d', ra', rc', ka', kc'⟩ := M'
      simp only at e
      subst e
      have hi : (k : Int) < (n : Int) := by omega
      have hi0 : (0 : Int) ≤ (k : Int) := by omega
      go_wp2
      go_region_with (go_at_call 81; refine (eqNode_same d' ra ra' ka ka' rc rc' kc kc' _ s1 s2 (by exact l1.1.onw (Below.drew (Onw.refl _))) (by exact l2.1.onw (Below.drew (Onw.refl _))) (by exact l1.2.onw (Below.drew (Onw.refl _))) (by exact l2.2.onw (Below.drew (Onw.refl _)))).mono ?_; rintro e w1 ⟨rfl, hb1⟩)
      all_goals
        go_wp2
        go_roundw
        case rel => exact ⟨k + 1, by omega, by go_num, Onw.trans (Below.drew hb) hb1⟩
        case measure => simp [intOf]; omega
    · go_wp2
      go_ret
      exact ⟨rfl, hb⟩
end Go.Proofs.YtnokgdgikdgaeaaGreat

namespace Go.Proofs.YtnokgdgikdgaeaaGreat
open Go.RowKit

set_option maxHeartbeats 1000000 in
theorem eqFn_same (m m' : FM) (w : World) (hs : m.Small) (he : m'.toFD = m.toFD) (ha : m.At w) (ha' : m'.At w) :
    Calls Tryz.prog 45 #[.agg #[.string m.name, .int .i64 m.line, .int .i64 m.params, .bool m.rest, .slice m.va m.nv m.vc, .slice m.ua m.nu m.uc, .slice m.na m.nn m.nc], .agg #[.string m'.name, .int .i64 m'.line, .int .i64 m'.params, .bool m'.rest, .slice m'.va m'.nv m'.vc, .slice m'.ua m'.nu m'.uc, .slice m'.na m'.nn m'.nc]] w fun e w' => e = .returned (.bool true) ∧ Onw w w' := by
  obtain ⟨name, line, params, rest, nv, vr, nu, ul, ui, nn, nm, va, vc, ua, uc, na, nc⟩ := m
  obtain ⟨name', line', params', rest', nv', vr', nu', ul', ui', nn', nm', va', vc', ua', uc', na', nc'⟩ := m'
  simp only [FM.toFD, FD.mk.injEq] at he
  obtain ⟨rfl, rfl, rfl, rfl, rfl, rfl, rfl, rfl, rfl, rfl, hd⟩ := he
  obtain ⟨s1, s2, s3, s4⟩ := hs
  obtain ⟨a1, a2, a3⟩ := ha
  obtain ⟨b1, b2, b3⟩ := ha'
  simp only at s1 s2 s3 s4 a1 a2 a3 b1 b2 b3
  have HD : Hid _ := fun i => congrFun hd i
  have HS : Hid _ := s4
  clear hd s4
  go_enter Tryz.func45, Tryz.ntmps45
  go_wp2_with fail
  have ob : Onw w _ := (Onw.alloc w (Obj.cells #[.string name', .int .i64 line', .int .i64 params', .bool rest', .slice va nv' vc, .slice ua nu' uc, .slice na nn' nc] 61)).trans (Onw.alloc _ (Obj.cells #[.string name', .int .i64 line', .int .i64 params', .bool rest', .slice va' nv' vc', .slice ua' nu' uc', .slice na' nn' nc'] 61))
  refine (eqStringS_same _ _ _ _ _ vr' _ s1 (by exact a1.onw ob) (by exact b1.onw ob)).mono ?_
  rintro e w1 ⟨rfl, hb1⟩
  have B0 := Blk.onw ((Onw.alloc _ _).trans hb1) (Blk.new w 61 _)
  have B1 := Blk.onw hb1 (Blk.new _ 61 _)
  have ob1 : Onw w w1 := ob.trans hb1
  simp only [World.size_alloc] at B1
  clear hb1 ob
  have c0 := B0.cell
  have c1 := B1.cell
  go_wp2_with fail
  refine (eqUpS_same _ _ _ _ _ ul' ui' _ s2 (by exact a2.onw ob1) (by exact b2.onw ob1)).mono ?_
  rintro e w2 ⟨rfl, hb2⟩
  have ob2 := ob1.trans hb2
  have D0 := B0.onw hb2
  have D1 := B1.onw hb2
  clear c0 c1 B0 B1 ob1 hb2
  have c0 := D0.cell
  have c1 := D1.cell
  go_wp2_with fail
  refine (eqNodeS_same _ _ _ _ _ nm nm' _ s3 HS.out HD.out (by exact a3.onw ob2) (by exact b3.onw ob2)).mono ?_
  rintro e w3 ⟨rfl, hb3⟩
  clear c0 c1
  go_wp2_with fail
  go_ret
  exact ⟨rfl, ob2.trans hb3⟩

set_option maxHeartbeats 1000000 in
theorem eqFnS_same (a a' : Option Addr) (n c c' : Nat) (fm fm' : Nat → FM) (w : World) (hn : n ≤ 1048576) (hs : ∀ i, i < n → (fm i).Small) (hd : ∀ i, (fm' i).toFD = (fm i).toFD) (ha : FnsAt w a n fm) (ha' : FnsAt w a' n fm') :
    Calls Tryz.prog 28 #[.slice a n c, .slice a' n c'] w fun e w' => e = .returned (.bool true) ∧ Onw w w' := by
  have HD : Hid _ := hd
  clear hd
  go_enter Tryz.func28, Tryz.ntmps28
  go_wp2
  go_loopw [5] (fun i wr => ∃ k : Nat, k ≤ n ∧ i = .int .i64 k ∧ Onw w wr) (fun i _ => n - (intOf i).toNat)
  case atStart => exact ⟨0, Nat.zero_le _, rfl, Onw.refl _⟩
  case round =>
    obtain ⟨k, hk, rfl, hb⟩ := hrel
    by_cases hlt : k < n
    · obtain ⟨b, off, rfl, hc⟩ := (ha.onw hb).1 (by omega)
      obtain ⟨b', off', rfl, hc'⟩ := (ha'.onw hb).1 (by omega)
      obtain ⟨h0, h1, h2, h3, h4, h5, h6⟩ := hc k hlt
      obtain ⟨g0, g1, g2, g3, g4, g5, g6⟩ := hc' k hlt
      have s1 := hs k hlt
      have l1 := (ha.2 k hlt).onw hb
      have l2 := (ha'.2 k hlt).onw hb
      have E : Hid _ := HD.out k
      clear hc hc' hs
      generalize fm k = M at *
      generalize fm' k = M' at *
      have hi : (k : Int) < (n : Int) := by omega
      have hi0 : (0 : Int) ≤ (k : Int) := by omega
      go_wp2
      go_region_with (go_at_call 45; refine (eqFn_same M M' _ s1 E.out (by exact l1.onw (Below.drew (Onw.refl _))) (by exact l2.onw (Below.drew (Onw.refl _)))).mono ?_; rintro e w1 ⟨rfl, hb1⟩)
      all_goals
        go_wp2
        go_roundw
        case rel => exact ⟨k + 1, by omega, by go_num, Onw.trans (Below.drew hb) hb1⟩
        case measure => simp [intOf]; omega
    · go_wp2
      go_ret
      exact ⟨rfl, hb⟩

set_option maxHeartbeats 1000000 in
theorem eqUnit_same (m m' : UM) (w : World) (hn : m.nf ≤ 1048576) (hs : ∀ i, i < m.nf → (m.fm i).Small) (he : m'.toUD = m.toUD) (ha : m.At w) (ha' : m'.At w) :
    Calls Tryz.prog 9 #[.agg #[.slice m.fa m.nf m.fc], .agg #[.slice m'.fa m'.nf m'.fc]] w fun e w' => e = .returned (.bool true) ∧ Onw w w' := by
  obtain ⟨nf, fm, fa, fc⟩ := m
  obtain ⟨nf', fm', fa', fc'⟩ := m'
  simp only [UM.toUD, UD.mk.injEq] at he
  obtain ⟨rfl, hd⟩ := he
  have HD : Hid _ := fun i => congrFun hd i
  have HS : Hid _ := hs
  clear hd hs
  go_enter Tryz.func9, Tryz.ntmps9
  go_wp2_with fail
  refine (eqFnS_same _ _ _ _ _ fm fm' _ hn HS.out HD.out (by exact FnsAt.onw ((Onw.alloc _ _).trans (Onw.alloc _ _)) ha) (by exact FnsAt.onw ((Onw.alloc _ _).trans (Onw.alloc _ _)) ha')).mono ?_
  rintro e w1 ⟨rfl, hb1⟩
  go_wp2_with fail
  go_ret
  exact ⟨rfl, ((Onw.alloc _ _).trans (Onw.alloc _ _)).trans hb1⟩
end Go.Proofs.YtnokgdgikdgaeaaGreat
