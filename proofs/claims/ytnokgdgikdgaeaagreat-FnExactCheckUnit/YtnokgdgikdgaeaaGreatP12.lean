import Derived.Test.YtnokgdgikdgaeaaGreatP10
import Derived.Test.YtnokgdgikdgaeaaGreatP11
namespace Go.Proofs.YtnokgdgikdgaeaaGreat
open Go.RowKit
attribute [local go_sem] run_store_float

theorem run_store_func (P : Program) (w : World) (a : Addr) (m : Mode) (f : Fn) (x y : Array Value) : (store a (.func f x y) m).run P w = stored P w a (.func f x y) m := run_store P w a _ m rfl
attribute [local go_sem] run_store_func

theorem retF {o : Option Flt} {x : Flt} (h : o = some x) : Ending.returned (.agg #[.int .i64 x.code, .int .i64 x.fn, .int .i64 x.node]) = .returned (fval o) := by rw [h]; rfl
theorem retN {o : Option Flt} (h : o = none) : Ending.returned (.agg #[.int .i64 0, .int .i64 0, .int .i64 0]) = .returned (fval o) := by rw [h]; rfl

/-- The first fn from f on, of m, with a fault. -/
def ffI (r : Nat → Int) (f : Nat) : Nat → Option (Nat × Int)
  | 0 => none
  | m + 1 => if r f = -1 then ffI r (f + 1) m else some (f, r f)
def fltK (c : Int) : Option (Nat × Int) → Option Flt
  | none => none
  | some x => some ⟨c, x.1, x.2⟩
def ffK (code : Nat → Int) (r : Nat → Nat → Int) (nf : Nat) (k : Nat) : Nat → Option Flt
  | 0 => none
  | m + 1 => match fltK (code k) (ffI (r k) 0 nf) with
    | some x => some x
    | none => ffK code r nf (k + 1) m
theorem ffI_none {r : Nat → Int} : ∀ {m f : Nat}, ffI r f m = none → ∀ j, f ≤ j → j < f + m → r j = -1
  | 0, f, _, j, h1, h2 => by omega
  | m + 1, f, h, j, h1, h2 => by
    rw [ffI] at h
    by_cases e : r f = -1
    · rw [if_pos e] at h
      by_cases e2 : f = j
      · subst e2; exact e
      · exact ffI_none h j (by omega) (by omega)
    · rw [if_neg e] at h; cases h

set_option maxRecDepth 100000 in
set_option maxHeartbeats 2000000 in
theorem firstFault_any (fid : Nat → FuncId) (code : Nat → Int) (nr rc rb : Nat) (fa : Option Addr) (nf fc : Nat) (a1 a2 a3 : Option Addr) (n1 n2 n3 c1 c2 c3 : Nat) (r : Nat → Nat → Int) (w : World) (hnr : nr ≤ 4) (hn : nf ≤ 1048576)
    (hrun : ∀ k, k < nr → ∀ (v x : Value) (w1 : World), Sem.run Tryz.prog (callFunc (fid k) #[v, x]) w1 = .ok (.enter (fid k) #[v, x]) w1)
    (hrules : ∀ k, k < nr → w.cell? ⟨rb, k * 2, none⟩ = some (.int .i64 (code k)) ∧ w.cell? ⟨rb, k * 2 + 1, none⟩ = some (.func (Fn.func (fid k)) #[.agg #[.slice fa nf fc, .slice a1 n1 c1, .slice a2 n2 c2, .slice a3 n3 c3]] #[]))
    (hcall : ∀ k, k < nr → (∀ k', k' < k → ∀ f, f < nf → r k' f = -1) → ∀ f, f < nf → ∀ w1, Onw w w1 → Calls Tryz.prog (fid k) #[.agg #[.slice fa nf fc, .slice a1 n1 c1, .slice a2 n2 c2, .slice a3 n3 c3], .int .i64 f] w1 fun e w' => e = .returned (.int .i64 (r k f)) ∧ Onw w1 w') :
    Calls Tryz.prog 17 #[.agg #[.slice fa nf fc, .slice a1 n1 c1, .slice a2 n2 c2, .slice a3 n3 c3], .slice (some ⟨rb, 0, none⟩) nr rc] w fun e w' => e = .returned (fval (ffK code r nf 0 nr)) ∧ Onw w w' := by
  have HRU : Hid _ := hrun
  have HRS : Hid _ := hrules
  have HC : Hid _ := hcall
  clear hrun hrules hcall
  go_enter Tryz.func17, Tryz.ntmps17
  go_wp2_with fail
  have O1 := Onw.alloc w (Obj.cells #[.slice fa nf fc, .slice a1 n1 c1, .slice a2 n2 c2, .slice a3 n3 c3] 44)
  have O2 := Onw.alloc (w.alloc (Obj.cells #[.slice fa nf fc, .slice a1 n1 c1, .slice a2 n2 c2, .slice a3 n3 c3] 44)) (Obj.cells #[.int .i64 0, .int .i64 0, .int .i64 0] 27)
  have N1 := (Blk.new w 44 #[.slice fa nf fc, .slice a1 n1 c1, .slice a2 n2 c2, .slice a3 n3 c3]).onw O2
  have N2 := Blk.new (w.alloc (Obj.cells #[.slice fa nf fc, .slice a1 n1 c1, .slice a2 n2 c2, .slice a3 n3 c3] 44)) 27 #[.int .i64 0, .int .i64 0, .int .i64 0]
  have O12 := O1.trans O2
  simp only [World.size_alloc] at N2
  clear O1 O2
  go_loopw [11] (fun i wr => ∃ (k : Nat), k ≤ nr ∧ i = .int .i64 k ∧ Onw w wr ∧ Blk wr w.heap.size 44 #[.slice fa nf fc, .slice a1 n1 c1, .slice a2 n2 c2, .slice a3 n3 c3] ∧ Blk wr (w.heap.size + 1) 27 #[.int .i64 0, .int .i64 0, .int .i64 0] ∧ ffK code r nf 0 nr = ffK code r nf k (nr - k) ∧ ∀ k', k' < k → ∀ f, f < nf → r k' f = -1) (fun i _ => nr - (intOf i).toNat)
  case atStart => exact ⟨0, Nat.zero_le _, rfl, O12, N1, N2, rfl, fun k' hk' => absurd hk' (Nat.not_lt_zero _)⟩
  case round =>
    clear O12 N1 N2
    obtain ⟨k, hk, rfl, ob, BX, BR, hq, hp⟩ := hrel
    have HQ : Hid _ := hq
    have HP : Hid _ := hp
    clear hq hp
    by_cases hlt : k < nr
    · obtain ⟨w0, hw0⟩ : ∃ x, x = wr := ⟨_, rfl⟩
      subst hw0
      obtain ⟨d0, d1⟩ := HRS.out k hlt
      have e0 := cell_onw ob d0
      have e1 := cell_onw ob d1
      have zr := cell_lt e0
      have zx := BX.lt
      have zy := BR.lt
      have bx := BX.cell
      have fin : Hid (ffK code r nf k (nr - k) = match fltK (code k) (ffI (r k) 0 nf) with | some x => some x | none => ffK code r nf (k + 1) (nr - (k + 1))) := by
        show _ = _
        rw [show nr - k = (nr - (k + 1)) + 1 from by omega]; rfl
      clear d0 d1
      go_wp2_with fail
      have BU := Blk.new w0 48 #[.int .i64 (code k), .func (Fn.func (fid k)) #[.agg #[.slice fa nf fc, .slice a1 n1 c1, .slice a2 n2 c2, .slice a3 n3 c3]] #[]]
      have OA := Onw.alloc w0 (Obj.cells #[.int .i64 (code k), .func (Fn.func (fid k)) #[.agg #[.slice fa nf fc, .slice a1 n1 c1, .slice a2 n2 c2, .slice a3 n3 c3]] #[]] 48)
      have BX' := BX.onw OA
      have BR' := BR.onw OA
      have ob' := ob.trans OA
      clear e0 e1 bx OA
      generalize w0.alloc (Obj.cells #[.int .i64 (code k), .func (Fn.func (fid k)) #[.agg #[.slice fa nf fc, .slice a1 n1 c1, .slice a2 n2 c2, .slice a3 n3 c3]] #[]] 48) = w1 at *
      go_loopw [18] (fun i wr => ∃ (f : Nat), f ≤ nf ∧ i = .int .i64 f ∧ Onw w wr ∧ Blk wr w.heap.size 44 #[.slice fa nf fc, .slice a1 n1 c1, .slice a2 n2 c2, .slice a3 n3 c3] ∧ Blk wr (w.heap.size + 1) 27 #[.int .i64 0, .int .i64 0, .int .i64 0] ∧ Blk wr w0.heap.size 48 #[.int .i64 (code k), .func (Fn.func (fid k)) #[.agg #[.slice fa nf fc, .slice a1 n1 c1, .slice a2 n2 c2, .slice a3 n3 c3]] #[]] ∧ ffI (r k) 0 nf = ffI (r k) f (nf - f)) (fun i _ => nf - (intOf i).toNat)
      case atStart => exact ⟨0, Nat.zero_le _, rfl, ob', BX', BR', BU, rfl⟩
      case round =>
        clear BX BR BU BX' BR' ob'
        obtain ⟨f, hf, rfl, oc, BX, BR, BU, hg⟩ := hrel
        have HG : Hid _ := hg
        clear hg
        by_cases hft : f < nf
        · have bu := BU.cell
          have mr := HRU.out k hlt
          have sf : Hid (ffI (r k) f (nf - f) = if r k f = -1 then ffI (r k) (f + 1) (nf - (f + 1)) else some (f, r k f)) := by
            show _ = _
            rw [show nf - f = (nf - (f + 1)) + 1 from by omega]; rfl
          go_wp2_with fail
          refine (HC.out k hlt HP.out f hft _ oc).mono ?_
          rintro e w2 ⟨rfl, O2⟩
          have BX2 := BX.onw O2
          have BR2 := BR.onw O2
          have BU2 := BU.onw O2
          have oc2 := oc.trans O2
          clear bu mr
          cases hx : (r k f != -1)
          · have hz : Hid (r k f = -1) := by show _ = _; simpa using hx
            go_wp2_with fail
            go_roundw
            case rel => exact ⟨f + 1, by omega, by go_num, oc2, BX2, BR2, BU2, by rw [HG.out, sf.out, if_pos hz.out]⟩
            case measure => simp [intOf]; omega
          · have hz : Hid (¬ r k f = -1) := by show ¬ _; simpa using hx
            have bu := BU2.cell
            have br := BR2.cell
            have fr := BR2.free
            go_wp2_with fail
            have br3 := (((BR2.set 0 (.int .i64 (code k))).set 1 (.int .i64 f)).set 2 (.int .i64 (r k f))).cell
            simp only [List.setIfInBounds_toArray, List.set_cons_zero, List.set_cons_succ] at br3
            exact bodyPost_ret (v := .agg #[.int .i64 (code k), .int .i64 f, .int .i64 (r k f)]) (by simp [results, Tryz.results17, go_sem, br3]) rfl ⟨retF (x := ⟨code k, f, r k f⟩) (by rw [HQ.out, fin.out, HG.out, sf.out, if_neg hz.out]; rfl), below_set (below_set (below_set oc2 (by omega) _) (by omega) _) (by omega) _⟩
        · have sf : Hid (ffI (r k) f (nf - f) = none) := by
            show _ = _
            rw [show nf - f = 0 from by omega]; rfl
          have hall : Hid (ffI (r k) 0 nf = none) := by show _ = _; rw [HG.out, sf.out]
          go_wp2_with fail
          go_roundw
          case rel =>
            refine ⟨k + 1, by omega, by go_num, oc, BX, BR, by rw [HQ.out, fin.out, hall.out]; rfl, fun k' hk' f' hf' => ?_⟩
            by_cases e : k' = k
            · subst e; exact ffI_none hall.out f' (Nat.zero_le _) (by omega)
            · exact HP.out k' (by omega) f' hf'
          case measure => simp [intOf]; omega
    · have fin : Hid (ffK code r nf k (nr - k) = none) := by
        show _ = _
        rw [show nr - k = 0 from by omega]; rfl
      have br := BR.cell
      have fr := BR.free
      go_wp2_with fail
      have br3 := (((BR.set 0 (.int .i64 0)).set 1 (.int .i64 0)).set 2 (.int .i64 0)).cell
      simp only [List.setIfInBounds_toArray, List.set_cons_zero, List.set_cons_succ] at br3
      exact bodyPost_ret (v := .agg #[.int .i64 0, .int .i64 0, .int .i64 0]) (by simp [results, Tryz.results17, go_sem, br3]) rfl ⟨retN (by rw [HQ.out, fin.out]), below_set (below_set (below_set ob (by omega) _) (by omega) _) (by omega) _⟩
end Go.Proofs.YtnokgdgikdgaeaaGreat

namespace Go.Proofs.YtnokgdgikdgaeaaGreat
open Go.RowKit
attribute [local go_sem] run_store_float run_store_func

def rules1 (u : UD) (k f : Nat) : Int := if k = 0 then orNone (headF (u.fn f) f) 0 else if k = 1 then formF (u.fn f) else if k = 2 then treeF (u.fn f) else deepF (u.fn f)
def rules2 (u : UD) (H : Nat → Nat → Nat → Int) (L : Nat → Nat → Int) (k f : Nat) : Int :=
  if k = 0 then refsF u (u.fn f) (fndB u (u.fn f) (H f)) else if k = 1 then jumpF (u.fn f) (inLB (L f)) else if k = 2 then madeF (u.fn f) f (mkF u u.nf) (fndB u (u.fn f) (H f)) else unmF (mkF u u.nf) f
def code1 (k : Nat) : Int := k + 2
def code2 (k : Nat) : Int := k + 6
def implB (u : UD) (H : Nat → Nat → Nat → Int) (L : Nat → Nat → Int) : Option Flt :=
  if sizeBad u then some ⟨1, 0, 0⟩ else
  match ffK code1 (rules1 u) u.nf 0 4 with
  | some x => some x
  | none => ffK code2 (rules2 u H L) u.nf 0 4
def fid1 (k : Nat) : FuncId := if k = 0 then 18 else if k = 1 then 19 else if k = 2 then 20 else 21
def fid2 (k : Nat) : FuncId := if k = 0 then 24 else if k = 1 then 25 else if k = 2 then 26 else 27
theorem cf_headFault (v x : Value) (w : World) : Sem.run Tryz.prog (callFunc 18 #[v, x]) w = .ok (.enter 18 #[v, x]) w := by kernel_rfl
theorem cf_formFault (v x : Value) (w : World) : Sem.run Tryz.prog (callFunc 19 #[v, x]) w = .ok (.enter 19 #[v, x]) w := by kernel_rfl
theorem cf_treeFault (v x : Value) (w : World) : Sem.run Tryz.prog (callFunc 20 #[v, x]) w = .ok (.enter 20 #[v, x]) w := by kernel_rfl
theorem cf_deepFault (v x : Value) (w : World) : Sem.run Tryz.prog (callFunc 21 #[v, x]) w = .ok (.enter 21 #[v, x]) w := by kernel_rfl
theorem cf_refsFault (v x : Value) (w : World) : Sem.run Tryz.prog (callFunc 24 #[v, x]) w = .ok (.enter 24 #[v, x]) w := by kernel_rfl
theorem cf_jumpFault (v x : Value) (w : World) : Sem.run Tryz.prog (callFunc 25 #[v, x]) w = .ok (.enter 25 #[v, x]) w := by kernel_rfl
theorem cf_madeFault (v x : Value) (w : World) : Sem.run Tryz.prog (callFunc 26 #[v, x]) w = .ok (.enter 26 #[v, x]) w := by kernel_rfl
theorem cf_unmadeFault (v x : Value) (w : World) : Sem.run Tryz.prog (callFunc 27 #[v, x]) w = .ok (.enter 27 #[v, x]) w := by kernel_rfl
theorem run1 (k : Nat) (hk : k < 4) (v x : Value) (w : World) : Sem.run Tryz.prog (callFunc (fid1 k) #[v, x]) w = .ok (.enter (fid1 k) #[v, x]) w := by
  have cs : k = 0 ∨ k = 1 ∨ k = 2 ∨ k = 3 := by omega
  rcases cs with rfl | rfl | rfl | rfl
  · exact cf_headFault v x w
  · exact cf_formFault v x w
  · exact cf_treeFault v x w
  · exact cf_deepFault v x w
theorem run2 (k : Nat) (hk : k < 4) (v x : Value) (w : World) : Sem.run Tryz.prog (callFunc (fid2 k) #[v, x]) w = .ok (.enter (fid2 k) #[v, x]) w := by
  have cs : k = 0 ∨ k = 1 ∨ k = 2 ∨ k = 3 := by omega
  rcases cs with rfl | rfl | rfl | rfl
  · exact cf_refsFault v x w
  · exact cf_jumpFault v x w
  · exact cf_madeFault v x w
  · exact cf_unmadeFault v x w

theorem ffK_code {code : Nat → Int} {r : Nat → Nat → Int} {nf : Nat} (hc : ∀ k, code k ≠ 0) : ∀ {m k : Nat} {x : Flt}, ffK code r nf k m = some x → x.code ≠ 0
  | 0, _, _, h => by cases h
  | m + 1, k, x, h => by
    rw [ffK] at h
    cases hf : ffI (r k) 0 nf with
    | none => rw [hf] at h; exact ffK_code hc h
    | some y => rw [hf] at h; cases h; exact hc k
theorem ffK_none {code : Nat → Int} {r : Nat → Nat → Int} {nf : Nat} : ∀ {m k : Nat}, ffK code r nf k m = none → ∀ j, k ≤ j → j < k + m → ∀ f, f < nf → r j f = -1
  | 0, k, _, j, h1, h2 => by omega
  | m + 1, k, h, j, h1, h2 => by
    rw [ffK] at h
    cases hf : ffI (r k) 0 nf with
    | none =>
      rw [hf] at h
      by_cases e : j = k
      · subst e; exact fun f hf' => ffI_none hf f (Nat.zero_le _) (by omega)
      · exact ffK_none h j (by omega) (by omega)
    | some y => rw [hf] at h; cases h

/-- The first four rules, whatever the two last lists are. -/
theorem call1 (u : UM) (ab : Nat) (fb : Nat → Nat) (a2 a3 : Option Addr) (n2 n3 c2 c3 : Nat) (w : World) (hn : u.nf ≤ 1048576) (hs : ∀ f, f < u.nf → (u.fm f).Small) (ha : u.At w) (hF : FormsAll w ab u.nf fb u.fm)
    (p3 : (∀ f, f < u.nf → rules1 u.toUD 0 f = -1) → (∀ f, f < u.nf → rules1 u.toUD 1 f = -1) → ∀ f, f < u.nf → Ok3 (u.fm f).toFD) :
    ∀ k, k < 4 → (∀ k', k' < k → ∀ f, f < u.nf → rules1 u.toUD k' f = -1) → ∀ f, f < u.nf → ∀ w1, Onw w w1 → Calls Tryz.prog (fid1 k) #[.agg #[.slice u.fa u.nf u.fc, .slice (some ⟨ab, 0, none⟩) u.nf u.nf, .slice a2 n2 c2, .slice a3 n3 c3], .int .i64 f] w1 fun e w' => e = .returned (.int .i64 (rules1 u.toUD k f)) ∧ Onw w1 w' := by
  intro k hk hb f hf w1 hw
  have cs : k = 0 ∨ k = 1 ∨ k = 2 ∨ k = 3 := by omega
  rcases cs with rfl | rfl | rfl | rfl
  · exact headFault_any u _ _ _ _ _ _ _ _ _ f w1 hf hn (hs f hf) (ha.onw hw)
  · exact formFault_any u ab fb _ _ _ _ _ _ f w1 hf hn (hs f hf) (hF.onw hw)
  · exact treeFault_any u _ _ _ _ _ _ _ _ _ f w1 hf hn (hs f hf) (p3 (hb 0 (by omega)) (hb 1 (by omega)) f hf) (ha.onw hw)
  · exact deepFault_any u _ _ _ _ _ _ _ _ _ f w1 hf hn (hs f hf) (p3 (hb 0 (by omega)) (hb 1 (by omega)) f hf) (ha.onw hw)

theorem call2 (u : UM) (ab sa mb : Nat) (fb sb : Nat → Nat) (H : Nat → Nat → Nat → Int) (L : Nat → Nat → Int) (w : World) (hn : u.nf ≤ 1048576) (hs : ∀ f, f < u.nf → (u.fm f).Small) (ha : u.At w) (hF : FormsAll w ab u.nf fb u.fm) (hS : SightsAll w sa u.nf sb u.fm (fun f => inLB (L f)) (fun f => fndB u.toUD (u.fm f).toFD (H f))) (hM : MakersAt w mb u.nf (mkF u.toUD u.nf))
    (hFa : ∀ f, f < u.nf → Facts (u.fm f).toFD (H f) (L f)) (hr : ∀ f, f < u.nf → ∀ n, n < (u.fm f).nn → ((u.fm f).nm n).kind = 27 → ((u.fm f).nm n).nr = 1)
    (p6 : (∀ f, f < u.nf → rules2 u.toUD H L 0 f = -1) → ∀ f, f < u.nf → ∀ n, n < (u.fm f).nn → ((u.fm f).nm n).kind = 36 → 0 ≤ ((u.fm f).nm n).rf 0 ∧ ((u.fm f).nm n).rf 0 < u.nf) :
    ∀ k, k < 4 → (∀ k', k' < k → ∀ f, f < u.nf → rules2 u.toUD H L k' f = -1) → ∀ f, f < u.nf → ∀ w1, Onw w w1 → Calls Tryz.prog (fid2 k) #[.agg #[.slice u.fa u.nf u.fc, .slice (some ⟨ab, 0, none⟩) u.nf u.nf, .slice (some ⟨sa, 0, none⟩) u.nf u.nf, .slice (some ⟨mb, 0, none⟩) u.nf u.nf], .int .i64 f] w1 fun e w' => e = .returned (.int .i64 (rules2 u.toUD H L k f)) ∧ Onw w1 w' := by
  intro k hk hb f hf w1 hw
  have F := hFa f hf
  have cs : k = 0 ∨ k = 1 ∨ k = 2 ∨ k = 3 := by omega
  rcases cs with rfl | rfl | rfl | rfl
  · exact refsFault_any u ab sa fb sb _ _ _ _ _ f w1 hf hn (hs f hf) F.nk F.par0 F.par1 (fun n hn' h => by
      rcases h with h | h
      · exact hr f hf n hn' h
      · exact (F.r1 n hn' (Or.inr h)).1) (ha.onw hw) (hF.onw hw) (hS.onw hw)
  · exact jumpFault_any u ab sa fb sb _ _ _ _ _ f w1 hf hn (hs f hf) F.nk (hF.onw hw) (hS.onw hw)
  · exact madeFault_any u ab sa mb fb sb _ _ _ f w1 hf hn (hs f hf) F.nk (fun n hn' h => ⟨(F.r1 n hn' (Or.inr h)).1, p6 (hb 0 (by omega)) f hf n hn' h⟩) (ha.onw hw) (hF.onw hw) (hS.onw hw) (hM.onw hw)
  · exact unmadeFault_any _ _ _ u.nf _ _ _ _ _ mb _ f w1 hf (hM.onw hw)
end Go.Proofs.YtnokgdgikdgaeaaGreat

namespace Go.Proofs.YtnokgdgikdgaeaaGreat
open Go.RowKit

theorem class_ne {c k : Int} (h : classB c k = true) : k ≠ 0 := by
  rintro rfl
  unfold classB at h
  simp [statB, exprB, targetB] at h

section
variable (nd : Nat → ND) (n : Nat)
def kfN : Nat → Int := fun i => kindK nd n ((nd n).kd i)
theorem kid_kf {i : Nat} (h : i < (nd n).nk) : kidK nd n i = kfN nd n i := by
  unfold kidK kfN kindK
  rw [if_neg (by omega)]
  by_cases e : (nd n).kd i < 0 ∨ (n : Int) ≤ (nd n).kd i
  · rw [if_pos e, if_neg (by omega)]
  · rw [if_neg e, if_pos (by omega)]
theorem kf_in {i : Nat} (h : kfN nd n i ≠ 0) : kidsB nd n i = true := by
  unfold kfN kindK at h
  by_cases e : 0 ≤ (nd n).kd i ∧ (nd n).kd i < (n : Int)
  · simp [kidsB, e.1, e.2]
  · rw [if_neg e] at h; exact absurd rfl h
def inB : Bool := allB (kidsB nd n) 0 (nd n).nk
theorem in_of (h : ∀ i, i < (nd n).nk → kfN nd n i ≠ 0) : inB nd n = true := (allB_iff _ _ _).2 fun j _ hj => kf_in nd n (h j (by omega))
theorem all_in {p q : Int → Bool} (m : Nat) (hm : m = (nd n).nk) (h : ∀ k, q k = true → k ≠ 0) (e : ∀ k, p k = q k) : (inB nd n && allB (fun i => p (kidK nd n i)) 0 m) = allB (fun i => q (kfN nd n i)) 0 m := by
  subst hm
  rw [Bool.eq_iff_iff, Bool.and_eq_true, allB_iff, allB_iff]
  constructor
  · rintro ⟨_, h2⟩ j h0 hj
    have := h2 j h0 hj
    rw [kid_kf nd n (by omega), e] at this; exact this
  · intro h2
    refine ⟨in_of nd n fun i hi => h _ (h2 i (Nat.zero_le _) (by omega)), fun j h0 hj => ?_⟩
    rw [kid_kf nd n (by omega), e]; exact h2 j h0 hj
end

theorem c0 (k : Int) : classB 0 k = statB k := rfl
theorem c1 (k : Int) : classB 1 k = exprB k := rfl
theorem c2 (k : Int) : classB 2 k = (k == 1) := rfl
theorem c3 (k : Int) : classB 3 k = (k == 1 || k == 5) := rfl
theorem c4 (k : Int) : classB 4 k = (k == 34) := rfl
theorem c5 (k : Int) : classB 5 k = (k == 34 || k == 37) := rfl
theorem c6 (k : Int) : classB 6 k = (k == 23) := rfl
theorem c7 (k : Int) : classB 7 k = targetB k := rfl

theorem kidsC_in {nd : Nat → ND} {n : Nat} {l : List Int} (h : kidsC l (nd n).nk (kfN nd n) = true) : inB nd n = true := by
  unfold kidsC at h
  rw [Bool.and_eq_true, allB_iff] at h
  have e : (nd n).nk = l.length := by have := h.1; simp at this; omega
  exact in_of nd n fun i hi => class_ne (h.2 i (Nat.zero_le _) (by omega))
theorem kidsC_one (c : Int) (m : Nat) (kf : Nat → Int) : kidsC [c] m kf = (((m : Int) == 1) && classB c (kf 0)) := by simp [kidsC, allB, clF]
theorem kidsC_two (a b : Int) (m : Nat) (kf : Nat → Int) : kidsC [a, b] m kf = (((m : Int) == 2) && (classB a (kf 0) && classB b (kf 1))) := by simp [kidsC, allB, clF]
theorem kidsC_three (a b c : Int) (m : Nat) (kf : Nat → Int) : kidsC [a, b, c] m kf = (((m : Int) == 3) && (classB a (kf 0) && (classB b (kf 1) && classB c (kf 2)))) := by simp [kidsC, allB, clF]
theorem kidsC_four (a b c d : Int) (m : Nat) (kf : Nat → Int) : kidsC [a, b, c, d] m kf = (((m : Int) == 4) && (classB a (kf 0) && (classB b (kf 1) && (classB c (kf 2) && classB d (kf 3))))) := by simp [kidsC, allB, clF]
end Go.Proofs.YtnokgdgikdgaeaaGreat

namespace Go.Proofs.YtnokgdgikdgaeaaGreat
open Go.RowKit

theorem in0 {nd : Nat → ND} {n : Nat} (h : (nd n).nk = 0) : inB nd n = true := by simp [inB, h, allB]

theorem fit_9 {nd : Nat → ND} {n : Nat} (h : (nd n).kind = 9) : fitK (nd n) (kfN nd n) = (inB nd n && stmtB nd n) := by
  by_cases hz : (nd n).nk = 0
  · rw [in0 hz]
    simp [fitK, stmtB, h, usesB, bareB, hz]
  · have hz' : (((nd n).nk : Int) == 0) = false := by simp; omega
    simp [fitK, stmtB, h, usesB, hz']

theorem fit_10 {nd : Nat → ND} {n : Nat} (h : (nd n).kind = 10) : fitK (nd n) (kfN nd n) = (inB nd n && stmtB nd n) := by
  by_cases hz : (nd n).nk = 0
  · rw [in0 hz]
    simp [fitK, stmtB, h, usesB, bareB, hz]
  · have hz' : (((nd n).nk : Int) == 0) = false := by simp; omega
    simp [fitK, stmtB, h, usesB, hz']

theorem fit_20 {nd : Nat → ND} {n : Nat} (h : (nd n).kind = 20) : fitK (nd n) (kfN nd n) = (inB nd n && exprnB nd n) := by
  by_cases hz : (nd n).nk = 0
  · rw [in0 hz]
    simp [fitK, exprnB, h, usesB, bareB, hz]
  · have hz' : (((nd n).nk : Int) == 0) = false := by simp; omega
    simp [fitK, exprnB, h, usesB, hz']

theorem fit_21 {nd : Nat → ND} {n : Nat} (h : (nd n).kind = 21) : fitK (nd n) (kfN nd n) = (inB nd n && exprnB nd n) := by
  by_cases hz : (nd n).nk = 0
  · rw [in0 hz]
    simp [fitK, exprnB, h, usesB, bareB, hz]
  · have hz' : (((nd n).nk : Int) == 0) = false := by simp; omega
    simp [fitK, exprnB, h, usesB, hz']

theorem fit_22 {nd : Nat → ND} {n : Nat} (h : (nd n).kind = 22) : fitK (nd n) (kfN nd n) = (inB nd n && exprnB nd n) := by
  by_cases hz : (nd n).nk = 0
  · rw [in0 hz]
    simp [fitK, exprnB, h, usesB, bareB, hz]
  · have hz' : (((nd n).nk : Int) == 0) = false := by simp; omega
    simp [fitK, exprnB, h, usesB, hz']

theorem fit_37 {nd : Nat → ND} {n : Nat} (h : (nd n).kind = 37) : fitK (nd n) (kfN nd n) = (inB nd n && exprnB nd n) := by
  by_cases hz : (nd n).nk = 0
  · rw [in0 hz]
    simp [fitK, exprnB, h, usesB, bareB, hz]
  · have hz' : (((nd n).nk : Int) == 0) = false := by simp; omega
    simp [fitK, exprnB, h, usesB, hz']

theorem fit_23 {nd : Nat → ND} {n : Nat} (h : (nd n).kind = 23) : fitK (nd n) (kfN nd n) = (inB nd n && exprnB nd n) := by
  by_cases hz : (nd n).nk = 0
  · rw [in0 hz]
    simp [fitK, exprnB, h, usesB, bareB, hz]
  · have hz' : (((nd n).nk : Int) == 0) = false := by simp; omega
    simp [fitK, exprnB, h, usesB, hz']

theorem fit_24 {nd : Nat → ND} {n : Nat} (h : (nd n).kind = 24) : fitK (nd n) (kfN nd n) = (inB nd n && exprnB nd n) := by
  by_cases hz : (nd n).nk = 0
  · rw [in0 hz]
    simp [fitK, exprnB, h, usesB, bareB, hz]
    grind
  · have hz' : (((nd n).nk : Int) == 0) = false := by simp; omega
    simp [fitK, exprnB, h, usesB, hz']

theorem fit_25 {nd : Nat → ND} {n : Nat} (h : (nd n).kind = 25) : fitK (nd n) (kfN nd n) = (inB nd n && exprnB nd n) := by
  by_cases hz : (nd n).nk = 0
  · rw [in0 hz]
    simp [fitK, exprnB, h, usesB, bareB, hz]
    grind
  · have hz' : (((nd n).nk : Int) == 0) = false := by simp; omega
    simp [fitK, exprnB, h, usesB, hz']

theorem fit_26 {nd : Nat → ND} {n : Nat} (h : (nd n).kind = 26) : fitK (nd n) (kfN nd n) = (inB nd n && exprnB nd n) := by
  by_cases hz : (nd n).nk = 0
  · rw [in0 hz]
    simp [fitK, exprnB, h, usesB, bareB, hz]
  · have hz' : (((nd n).nk : Int) == 0) = false := by simp; omega
    simp [fitK, exprnB, h, usesB, hz']

theorem fit_27 {nd : Nat → ND} {n : Nat} (h : (nd n).kind = 27) : fitK (nd n) (kfN nd n) = (inB nd n && exprnB nd n) := by
  by_cases hz : (nd n).nk = 0
  · rw [in0 hz]
    simp [fitK, exprnB, h, usesB, bareB, hz]
  · have hz' : (((nd n).nk : Int) == 0) = false := by simp; omega
    simp [fitK, exprnB, h, usesB, hz']

theorem fit_36 {nd : Nat → ND} {n : Nat} (h : (nd n).kind = 36) : fitK (nd n) (kfN nd n) = (inB nd n && exprnB nd n) := by
  by_cases hz : (nd n).nk = 0
  · rw [in0 hz]
    simp [fitK, exprnB, h, usesB, bareB, hz]
  · have hz' : (((nd n).nk : Int) == 0) = false := by simp; omega
    simp [fitK, exprnB, h, usesB, hz']

theorem fit_28 {nd : Nat → ND} {n : Nat} (h : (nd n).kind = 28) : fitK (nd n) (kfN nd n) = (inB nd n && exprnB nd n) := by
  by_cases hz : (nd n).nk = 0
  · rw [in0 hz]
    simp [fitK, exprnB, h, usesB, bareB, hz]
    grind
  · have hz' : (((nd n).nk : Int) == 0) = false := by simp; omega
    simp [fitK, exprnB, h, usesB, hz']

theorem fit_4 {nd : Nat → ND} {n : Nat} (h : (nd n).kind = 4) : fitK (nd n) (kfN nd n) = (inB nd n && stmtB nd n) := by
  have e1 : fitK (nd n) (kfN nd n) = ((usesB (nd n) false false false false false true) && kidsC [4] (nd n).nk (kfN nd n)) := by simp [fitK, h]
  have e2 : stmtB nd n = ((((nd n).nk : Int) == 1) && kidK nd n 0 == 34 && (bareB (nd n) false false false false 0)) := by simp [stmtB, h]
  rw [e1, e2]
  by_cases hz : (nd n).nk = 1
  · have k0 := kid_kf nd n (i := 0) (by omega)
    cases hx : kidsC [4] (nd n).nk (kfN nd n)
    · simp only [kidsC_one, c4] at hx
      have hx2 : (((kfN nd n 0) == 34)) = false := by simpa [hz] using hx
      grind
    · rw [kidsC_in hx]
      simp only [kidsC_one, c4] at hx
      have hx2 : (((kfN nd n 0) == 34)) = true := by simpa [hz] using hx
      grind [usesB, bareB]
  · have hz' : (((nd n).nk : Int) == 1) = false := by simp; omega
    rw [kidsC_one, hz']; simp

theorem fit_14 {nd : Nat → ND} {n : Nat} (h : (nd n).kind = 14) : fitK (nd n) (kfN nd n) = (inB nd n && stmtB nd n) := by
  have e1 : fitK (nd n) (kfN nd n) = ((usesB (nd n) false false false false false true) && kidsC [4] (nd n).nk (kfN nd n)) := by simp [fitK, h]
  have e2 : stmtB nd n = ((((nd n).nk : Int) == 1) && kidK nd n 0 == 34 && (bareB (nd n) false false false false 0)) := by simp [stmtB, h]
  rw [e1, e2]
  by_cases hz : (nd n).nk = 1
  · have k0 := kid_kf nd n (i := 0) (by omega)
    cases hx : kidsC [4] (nd n).nk (kfN nd n)
    · simp only [kidsC_one, c4] at hx
      have hx2 : (((kfN nd n 0) == 34)) = false := by simpa [hz] using hx
      grind
    · rw [kidsC_in hx]
      simp only [kidsC_one, c4] at hx
      have hx2 : (((kfN nd n 0) == 34)) = true := by simpa [hz] using hx
      grind [usesB, bareB]
  · have hz' : (((nd n).nk : Int) == 1) = false := by simp; omega
    rw [kidsC_one, hz']; simp

theorem fit_6 {nd : Nat → ND} {n : Nat} (h : (nd n).kind = 6) : fitK (nd n) (kfN nd n) = (inB nd n && stmtB nd n) := by
  have e1 : fitK (nd n) (kfN nd n) = ((usesB (nd n) false false false false false true) && kidsC [1, 2] (nd n).nk (kfN nd n)) := by simp [fitK, h]
  have e2 : stmtB nd n = ((((nd n).nk : Int) == 2) && exprsB nd n 0 1 && blockB nd n && (bareB (nd n) false false false false 0)) := by simp [stmtB, h]
  rw [e1, e2]
  by_cases hz : (nd n).nk = 2
  · have k0 := kid_kf nd n (i := 0) (by omega)
    have k1 := kid_kf nd n (i := 1) (by omega)
    cases hx : kidsC [1, 2] (nd n).nk (kfN nd n)
    · simp only [kidsC_two, c1, c2] at hx
      have hx2 : (exprB (kfN nd n 0) && (((kfN nd n 1) == 1))) = false := by simpa [hz] using hx
      grind [exprsB, allB, blockB]
    · rw [kidsC_in hx]
      simp only [kidsC_two, c1, c2] at hx
      have hx2 : (exprB (kfN nd n 0) && (((kfN nd n 1) == 1))) = true := by simpa [hz] using hx
      grind [exprsB, allB, blockB, usesB, bareB]
  · have hz' : (((nd n).nk : Int) == 2) = false := by simp; omega
    rw [kidsC_two, hz']; simp

theorem fit_7 {nd : Nat → ND} {n : Nat} (h : (nd n).kind = 7) : fitK (nd n) (kfN nd n) = (inB nd n && stmtB nd n) := by
  have e1 : fitK (nd n) (kfN nd n) = ((usesB (nd n) false false false false true true) && (((nd n).nr : Int) == 1) && kidsC [1, 1, 1, 2] (nd n).nk (kfN nd n)) := by simp [fitK, h]
  have e2 : stmtB nd n = ((((nd n).nk : Int) == 4) && exprsB nd n 0 3 && blockB nd n && (bareB (nd n) false false false false 1)) := by simp [stmtB, h]
  rw [e1, e2]
  by_cases hz : (nd n).nk = 4
  · have k0 := kid_kf nd n (i := 0) (by omega)
    have k1 := kid_kf nd n (i := 1) (by omega)
    have k2 := kid_kf nd n (i := 2) (by omega)
    have k3 := kid_kf nd n (i := 3) (by omega)
    cases hx : kidsC [1, 1, 1, 2] (nd n).nk (kfN nd n)
    · simp only [kidsC_four, c1, c2] at hx
      have hx2 : (exprB (kfN nd n 0) && (exprB (kfN nd n 1) && (exprB (kfN nd n 2) && (((kfN nd n 3) == 1))))) = false := by simpa [hz] using hx
      grind [exprsB, allB, blockB]
    · rw [kidsC_in hx]
      simp only [kidsC_four, c1, c2] at hx
      have hx2 : (exprB (kfN nd n 0) && (exprB (kfN nd n 1) && (exprB (kfN nd n 2) && (((kfN nd n 3) == 1))))) = true := by simpa [hz] using hx
      grind [exprsB, allB, blockB, usesB, bareB]
  · have hz' : (((nd n).nk : Int) == 4) = false := by simp; omega
    rw [kidsC_four, hz']; simp

theorem fit_8 {nd : Nat → ND} {n : Nat} (h : (nd n).kind = 8) : fitK (nd n) (kfN nd n) = (inB nd n && stmtB nd n) := by
  have e1 : fitK (nd n) (kfN nd n) = ((usesB (nd n) false false false false true true) && (decide (1 ≤ ((nd n).nr : Int)) && decide (((nd n).nr : Int) ≤ 4)) && kidsC [1, 2] (nd n).nk (kfN nd n)) := by simp [fitK, h]
  have e2 : stmtB nd n = ((((nd n).nk : Int) == 2) && decide (1 ≤ (nd n).nr) && decide ((nd n).nr ≤ 4) && exprsB nd n 0 1 && blockB nd n && (bareB (nd n) false false false false (nd n).nr)) := by simp [stmtB, h]
  rw [e1, e2]
  by_cases hz : (nd n).nk = 2
  · have k0 := kid_kf nd n (i := 0) (by omega)
    have k1 := kid_kf nd n (i := 1) (by omega)
    cases hx : kidsC [1, 2] (nd n).nk (kfN nd n)
    · simp only [kidsC_two, c1, c2] at hx
      have hx2 : (exprB (kfN nd n 0) && (((kfN nd n 1) == 1))) = false := by simpa [hz] using hx
      grind [exprsB, allB, blockB]
    · rw [kidsC_in hx]
      simp only [kidsC_two, c1, c2] at hx
      have hx2 : (exprB (kfN nd n 0) && (((kfN nd n 1) == 1))) = true := by simpa [hz] using hx
      grind [exprsB, allB, blockB, usesB, bareB]
  · have hz' : (((nd n).nk : Int) == 2) = false := by simp; omega
    rw [kidsC_two, hz']; simp

theorem fit_12 {nd : Nat → ND} {n : Nat} (h : (nd n).kind = 12) : fitK (nd n) (kfN nd n) = (inB nd n && stmtB nd n) := by
  have e1 : fitK (nd n) (kfN nd n) = ((usesB (nd n) false false false false true true) && (((nd n).nr : Int) == 2) && kidsC [2, 2] (nd n).nk (kfN nd n)) := by simp [fitK, h]
  have e2 : stmtB nd n = ((((nd n).nk : Int) == 2) && kidK nd n 0 == 1 && blockB nd n && (bareB (nd n) false false false false 2)) := by simp [stmtB, h]
  rw [e1, e2]
  by_cases hz : (nd n).nk = 2
  · have k0 := kid_kf nd n (i := 0) (by omega)
    have k1 := kid_kf nd n (i := 1) (by omega)
    cases hx : kidsC [2, 2] (nd n).nk (kfN nd n)
    · simp only [kidsC_two, c2] at hx
      have hx2 : (((kfN nd n 0) == 1) && (((kfN nd n 1) == 1))) = false := by simpa [hz] using hx
      grind [blockB]
    · rw [kidsC_in hx]
      simp only [kidsC_two, c2] at hx
      have hx2 : (((kfN nd n 0) == 1) && (((kfN nd n 1) == 1))) = true := by simpa [hz] using hx
      grind [blockB, usesB, bareB]
  · have hz' : (((nd n).nk : Int) == 2) = false := by simp; omega
    rw [kidsC_two, hz']; simp

theorem fit_13 {nd : Nat → ND} {n : Nat} (h : (nd n).kind = 13) : fitK (nd n) (kfN nd n) = (inB nd n && stmtB nd n) := by
  have e1 : fitK (nd n) (kfN nd n) = ((usesB (nd n) false false false false false true) && kidsC [1] (nd n).nk (kfN nd n)) := by simp [fitK, h]
  have e2 : stmtB nd n = ((((nd n).nk : Int) == 1) && exprsB nd n 0 1 && (bareB (nd n) false false false false 0)) := by simp [stmtB, h]
  rw [e1, e2]
  by_cases hz : (nd n).nk = 1
  · have k0 := kid_kf nd n (i := 0) (by omega)
    cases hx : kidsC [1] (nd n).nk (kfN nd n)
    · simp only [kidsC_one, c1] at hx
      have hx2 : (exprB (kfN nd n 0)) = false := by simpa [hz] using hx
      grind [exprsB, allB]
    · rw [kidsC_in hx]
      simp only [kidsC_one, c1] at hx
      have hx2 : (exprB (kfN nd n 0)) = true := by simpa [hz] using hx
      grind [exprsB, allB, usesB, bareB]
  · have hz' : (((nd n).nk : Int) == 1) = false := by simp; omega
    rw [kidsC_one, hz']; simp

theorem fit_29 {nd : Nat → ND} {n : Nat} (h : (nd n).kind = 29) : fitK (nd n) (kfN nd n) = (inB nd n && exprnB nd n) := by
  have e1 : fitK (nd n) (kfN nd n) = ((usesB (nd n) false false false false false true) && kidsC [1, 1] (nd n).nk (kfN nd n)) := by simp [fitK, h]
  have e2 : exprnB nd n = ((((nd n).nk : Int) == 2) && exprsB nd n 0 (nd n).nk && (bareB (nd n) false false false false 0)) := by simp [exprnB, h]
  rw [e1, e2]
  by_cases hz : (nd n).nk = 2
  · have k0 := kid_kf nd n (i := 0) (by omega)
    have k1 := kid_kf nd n (i := 1) (by omega)
    cases hx : kidsC [1, 1] (nd n).nk (kfN nd n)
    · simp only [kidsC_two, c1] at hx
      have hx2 : (exprB (kfN nd n 0) && (exprB (kfN nd n 1))) = false := by simpa [hz] using hx
      grind [exprsB, allB]
    · rw [kidsC_in hx]
      simp only [kidsC_two, c1] at hx
      have hx2 : (exprB (kfN nd n 0) && (exprB (kfN nd n 1))) = true := by simpa [hz] using hx
      grind [exprsB, allB, usesB, bareB]
  · have hz' : (((nd n).nk : Int) == 2) = false := by simp; omega
    rw [kidsC_two, hz']; simp

theorem fit_30 {nd : Nat → ND} {n : Nat} (h : (nd n).kind = 30) : fitK (nd n) (kfN nd n) = (inB nd n && exprnB nd n) := by
  have e1 : fitK (nd n) (kfN nd n) = ((usesB (nd n) false false false false false true) && kidsC [1, 1] (nd n).nk (kfN nd n)) := by simp [fitK, h]
  have e2 : exprnB nd n = ((((nd n).nk : Int) == 2) && exprsB nd n 0 (nd n).nk && (bareB (nd n) false false false false 0)) := by simp [exprnB, h]
  rw [e1, e2]
  by_cases hz : (nd n).nk = 2
  · have k0 := kid_kf nd n (i := 0) (by omega)
    have k1 := kid_kf nd n (i := 1) (by omega)
    cases hx : kidsC [1, 1] (nd n).nk (kfN nd n)
    · simp only [kidsC_two, c1] at hx
      have hx2 : (exprB (kfN nd n 0) && (exprB (kfN nd n 1))) = false := by simpa [hz] using hx
      grind [exprsB, allB]
    · rw [kidsC_in hx]
      simp only [kidsC_two, c1] at hx
      have hx2 : (exprB (kfN nd n 0) && (exprB (kfN nd n 1))) = true := by simpa [hz] using hx
      grind [exprsB, allB, usesB, bareB]
  · have hz' : (((nd n).nk : Int) == 2) = false := by simp; omega
    rw [kidsC_two, hz']; simp

theorem fit_33 {nd : Nat → ND} {n : Nat} (h : (nd n).kind = 33) : fitK (nd n) (kfN nd n) = (inB nd n && exprnB nd n) := by
  have e1 : fitK (nd n) (kfN nd n) = ((usesB (nd n) false false false false false true) && kidsC [1, 1] (nd n).nk (kfN nd n)) := by simp [fitK, h]
  have e2 : exprnB nd n = ((((nd n).nk : Int) == 2) && exprsB nd n 0 (nd n).nk && (bareB (nd n) false false false false 0)) := by simp [exprnB, h]
  rw [e1, e2]
  by_cases hz : (nd n).nk = 2
  · have k0 := kid_kf nd n (i := 0) (by omega)
    have k1 := kid_kf nd n (i := 1) (by omega)
    cases hx : kidsC [1, 1] (nd n).nk (kfN nd n)
    · simp only [kidsC_two, c1] at hx
      have hx2 : (exprB (kfN nd n 0) && (exprB (kfN nd n 1))) = false := by simpa [hz] using hx
      grind [exprsB, allB]
    · rw [kidsC_in hx]
      simp only [kidsC_two, c1] at hx
      have hx2 : (exprB (kfN nd n 0) && (exprB (kfN nd n 1))) = true := by simpa [hz] using hx
      grind [exprsB, allB, usesB, bareB]
  · have hz' : (((nd n).nk : Int) == 2) = false := by simp; omega
    rw [kidsC_two, hz']; simp

theorem fit_31 {nd : Nat → ND} {n : Nat} (h : (nd n).kind = 31) : fitK (nd n) (kfN nd n) = (inB nd n && exprnB nd n) := by
  have e1 : fitK (nd n) (kfN nd n) = ((usesB (nd n) true false false false false true) && (decide (19 ≤ (nd n).op) && decide ((nd n).op ≤ 22)) && kidsC [1] (nd n).nk (kfN nd n)) := by simp [fitK, h]
  have e2 : exprnB nd n = ((((nd n).nk : Int) == 1) && exprsB nd n 0 (nd n).nk && decide (19 ≤ (nd n).op) && decide ((nd n).op ≤ 22) && (bareB (nd n) true false false false 0)) := by simp [exprnB, h]
  rw [e1, e2]
  by_cases hz : (nd n).nk = 1
  · have k0 := kid_kf nd n (i := 0) (by omega)
    cases hx : kidsC [1] (nd n).nk (kfN nd n)
    · simp only [kidsC_one, c1] at hx
      have hx2 : (exprB (kfN nd n 0)) = false := by simpa [hz] using hx
      grind [exprsB, allB]
    · rw [kidsC_in hx]
      simp only [kidsC_one, c1] at hx
      have hx2 : (exprB (kfN nd n 0)) = true := by simpa [hz] using hx
      grind [exprsB, allB, usesB, bareB]
  · have hz' : (((nd n).nk : Int) == 1) = false := by simp; omega
    rw [kidsC_one, hz']; simp

theorem fit_32 {nd : Nat → ND} {n : Nat} (h : (nd n).kind = 32) : fitK (nd n) (kfN nd n) = (inB nd n && exprnB nd n) := by
  have e1 : fitK (nd n) (kfN nd n) = ((usesB (nd n) true false false false false true) && (decide (1 ≤ (nd n).op) && decide ((nd n).op ≤ 18)) && kidsC [1, 1] (nd n).nk (kfN nd n)) := by simp [fitK, h]
  have e2 : exprnB nd n = ((((nd n).nk : Int) == 2) && exprsB nd n 0 (nd n).nk && decide (1 ≤ (nd n).op) && decide ((nd n).op ≤ 18) && (bareB (nd n) true false false false 0)) := by simp [exprnB, h]
  rw [e1, e2]
  by_cases hz : (nd n).nk = 2
  · have k0 := kid_kf nd n (i := 0) (by omega)
    have k1 := kid_kf nd n (i := 1) (by omega)
    cases hx : kidsC [1, 1] (nd n).nk (kfN nd n)
    · simp only [kidsC_two, c1] at hx
      have hx2 : (exprB (kfN nd n 0) && (exprB (kfN nd n 1))) = false := by simpa [hz] using hx
      grind [exprsB, allB]
    · rw [kidsC_in hx]
      simp only [kidsC_two, c1] at hx
      have hx2 : (exprB (kfN nd n 0) && (exprB (kfN nd n 1))) = true := by simpa [hz] using hx
      grind [exprsB, allB, usesB, bareB]
  · have hz' : (((nd n).nk : Int) == 2) = false := by simp; omega
    rw [kidsC_two, hz']; simp

theorem fit_38 {nd : Nat → ND} {n : Nat} (h : (nd n).kind = 38) : fitK (nd n) (kfN nd n) = (inB nd n && exprnB nd n) := by
  have e1 : fitK (nd n) (kfN nd n) = ((usesB (nd n) false false false false false true) && kidsC [5] (nd n).nk (kfN nd n)) := by simp [fitK, h]
  have e2 : exprnB nd n = ((((nd n).nk : Int) == 1) && manyB (kidK nd n 0) && (bareB (nd n) false false false false 0)) := by simp [exprnB, h]
  rw [e1, e2]
  by_cases hz : (nd n).nk = 1
  · have k0 := kid_kf nd n (i := 0) (by omega)
    cases hx : kidsC [5] (nd n).nk (kfN nd n)
    · simp only [kidsC_one, c5] at hx
      have hx2 : (((kfN nd n 0) == 34 || (kfN nd n 0) == 37)) = false := by simpa [hz] using hx
      grind [manyB]
    · rw [kidsC_in hx]
      simp only [kidsC_one, c5] at hx
      have hx2 : (((kfN nd n 0) == 34 || (kfN nd n 0) == 37)) = true := by simpa [hz] using hx
      grind [manyB, usesB, bareB]
  · have hz' : (((nd n).nk : Int) == 1) = false := by simp; omega
    rw [kidsC_one, hz']; simp

end Go.Proofs.YtnokgdgikdgaeaaGreat
