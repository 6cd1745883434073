import Derived.Test.YtnokgdgikdgaeaaP20
import Derived.Deep.Slices
import Derived.Deep.Fields
import Derived.SizedLaws
import Derived.ProofKit
namespace Go.Proofs.Ytnokgdgikdgaeaa
open Go.RowKit Go.Deep Go.ChangeShapes Go.WideShapes

def pd0 : PD := ⟨0, 0, 0, 0, 0, 0, 0, ByteArray.empty, 0, fun _ => ByteArray.empty, 0, fun _ => 0⟩
def pm0 : PM := ⟨pd0, none, 0, none, 0⟩

section
variable {H : Type} {enc : TypeId × Value → H} {w : World} {spare : Nat → Bool} {held : Bool}

/-- Each string and slice in it is within the form's reach. -/
def Fit (t : TypeId) (d : DataW H) : Prop := ∀ n, n ∈ d.weights Try.prog t → n ≤ 140737488351232
theorem fit_all_mem {e : TypeId} : ∀ {l : List (DataW H)}, (∀ n, n ∈ DataW.weightsAll Try.prog e l → n ≤ 140737488351232) → ∀ d, d ∈ l → Fit e d
  | [], _, d, hd => by cases hd
  | x :: l, h, d, hd => by
    simp only [DataW.weightsAll, List.mem_append] at h
    rcases List.mem_cons.1 hd with rfl | hd
    · exact fun n hn => h n (Or.inl hn)
    · exact fit_all_mem (fun n hn => h n (Or.inr hn)) d hd
theorem fit_slice {t e : TypeId} (hu : Try.prog.underlying t = some (.slice e)) {elems rest : List (DataW H)} (h : Fit t (.slice elems rest)) : (elems.length + rest.length) * Try.prog.bytesOf e ≤ 140737488351232 ∧ ∀ d, d ∈ elems → Fit e d := by
  unfold Fit at h
  simp only [DataW.weights, hu, List.mem_cons, List.mem_append] at h
  exact ⟨h _ (Or.inl rfl), fit_all_mem fun n hn => h n (Or.inr (Or.inl hn))⟩
theorem fit_agg {t : TypeId} {fs : Array Field} (hu : Try.prog.underlying t = some (.struct fs)) {parts : List (DataW H)} (h : Fit t (.agg parts)) {i : Nat} {f : Field} (hi : fs[i]? = some f) {d : DataW H} (hd : parts[i]? = some d) : Fit f.type d := by
  unfold Fit at h
  simp only [DataW.weights, hu] at h
  exact fun n hn => h n (DataW.weights_mem_each (j := i) (t := f.type) (d := d) (by simp [hi]) hd n hn)

/-- A struct of one-cell fields, field by field. -/
theorem fields {t : TypeId} {fs : Array Field} {fuel : Nat} {cs : List Value} {x : DataW H × List MemPlace} (hs : Try.prog.underlying t = some (.struct fs)) (hone : oneCellFields Try.prog fs = true) (hC : Try.prog.cellsOf t = fs.size) (h : DataW.trod enc Try.prog w 0 spare held fuel t cs = some x) (hf : Fit t x.1) :
    cs.length = fs.size ∧ ∃ n, ∀ (i : Nat) (f : Field), fs[i]? = some f → ∃ v y, cs[i]? = some v ∧ DataW.trod enc Try.prog w 0 spare held n f.type [v] = some y ∧ Fit f.type y.1 := by
  obtain ⟨xs, n, _, rfl, hl, hxl, hg⟩ := DataW.trod_struct hs h
  rw [hC] at hl
  refine ⟨hl, n, fun i f hi => ?_⟩
  have hlt : i < fs.size := (Array.getElem?_eq_some_iff.1 hi).1
  obtain ⟨ho, hc1⟩ := hone_of hone i f hi
  have g := hg i f hi
  rw [ho, hc1, take1_drop cs i undef (by omega)] at g
  have e1 : cs[i]? = some (cs.getD i undef) := by simp [List.getD, List.getElem?_eq_getElem (show i < cs.length by omega)]
  have e2 : xs[i]? = some (xs.getD i (.nil, [])) := by simp [List.getD, List.getElem?_eq_getElem (show i < xs.length by omega)]
  refine ⟨_, xs.getD i (.nil, []), e1, by rw [g, e2], ?_⟩
  refine fit_agg hs hf hi ?_
  rw [List.getElem?_map, e2]; rfl

/-- A slice, element by element. -/
theorem elems {t e : TypeId} {fuel : Nat} {v : Value} {x : DataW H × List MemPlace} (ht : Try.prog.underlying t = some (.slice e)) (hb : 1 ≤ Try.prog.bytesOf e) (hp : 0 < Try.prog.cellsOf e) (h : DataW.trod enc Try.prog w 0 spare held fuel t [v] = some x) (hf : Fit t x.1) :
    ∃ (a : Option Addr) (l c n : Nat), v = .slice a l c ∧ l ≤ 140737488351232 ∧ (0 < l → ∃ b off, a = some ⟨b, off, none⟩ ∧ ∀ i, i < l → ∃ cs y, cs.length = Try.prog.cellsOf e ∧ (∀ j, j < Try.prog.cellsOf e → w.cell? ⟨b, off + i * Try.prog.cellsOf e + j, none⟩ = cs[j]?) ∧ DataW.trod enc Try.prog w 0 spare held n e cs = some y ∧ Fit e y.1) := by
  rcases open_slice ht h with ⟨h0, _⟩ | ⟨a, len, cap, m, n, D, Pl, hcs, _, hl, hm, hmm, rfl, hx⟩
  · simp only [List.cons.injEq, and_true] at h0
    exact ⟨none, 0, 0, 0, h0, by omega, fun h => absurd h (Nat.lt_irrefl 0)⟩
  · simp only [List.cons.injEq, and_true] at hcs
    have hlm : len ≤ m := by rw [hmm]; split <;> omega
    obtain ⟨f1, f2⟩ := fit_slice ht hf
    simp only [List.length_map, List.length_range] at f1
    refine ⟨some a, len, cap, n, hcs, ?_, fun h0 => ?_⟩
    · have h2 : (len + (m - len)) * 1 ≤ (len + (m - len)) * Try.prog.bytesOf e := Nat.mul_le_mul_left _ hb
      omega
    · obtain ⟨b, off, spot⟩ := a
      have hspot : spot = none := by
        obtain ⟨cs0, g1, _⟩ := hx 0 (by omega)
        obtain ⟨_, hlen, hcell⟩ := World.cells?_some g1
        have := hcell 0 hp
        rw [List.getElem?_eq_getElem (by omega)] at this
        simpa [Addr.add] using World.cell?_spot this
      subst hspot
      refine ⟨b, off, rfl, fun i hi => ?_⟩
      obtain ⟨cs, g1, g2⟩ := hx i (by omega)
      obtain ⟨_, hlen, hcell⟩ := World.cells?_some g1
      refine ⟨cs, (D i, Pl i), hlen, fun j hj => ?_, g2, f2 _ (List.mem_map.2 ⟨i, List.mem_range.2 hi, rfl⟩)⟩
      have := hcell j hj
      rw [add_plain, add_plain] at this
      exact this

theorem trod_float {t : TypeId} {k : FloatKind} {fuel : Nat} {cs : List Value} {x : DataW H × List MemPlace} (ht : Try.prog.underlying t = some (.float k)) (h : DataW.trod enc Try.prog w 0 spare held fuel t cs = some x) : ∃ b, cs = [.float k b] := by
  cases fuel with
  | zero => simp [DataW.trod] at h
  | succ n =>
    unfold DataW.trod at h
    rw [ht] at h
    split at h <;> simp_all

theorem is_int {n : Nat} {v : Value} {y : DataW H × List MemPlace} {t : TypeId} (ht : Try.prog.underlying t = some (.int .i64)) (h : DataW.trod enc Try.prog w 0 spare held n t [v] = some y) : ∃ x, v = .int .i64 x := by
  obtain ⟨x, h1, _⟩ := DataW.trod_int ht h
  exact ⟨x, by simpa using h1⟩
theorem is_string {n : Nat} {v : Value} {y : DataW H × List MemPlace} (h : DataW.trod enc Try.prog w 0 spare held n 9 [v] = some y) (hf : Fit 9 y.1) : ∃ s : ByteArray, v = .string s ∧ s.size ≤ 140737488351232 := by
  obtain ⟨s, h1, h2, _⟩ := DataW.trod_string Try.underlying9 h
  refine ⟨s, by simpa using h1, ?_⟩
  rw [h2] at hf
  have := hf s.data.toList.length (by simp [DataW.weights])
  simpa using this
theorem is_bool {n : Nat} {v : Value} {y : DataW H × List MemPlace} (h : DataW.trod enc Try.prog w 0 spare held n 4 [v] = some y) : ∃ b, v = .bool b := by
  obtain ⟨b, h1, _⟩ := DataW.trod_bool Try.underlying4 h
  exact ⟨b, by simpa using h1⟩
end
end Go.Proofs.Ytnokgdgikdgaeaa

namespace Go.Proofs.Ytnokgdgikdgaeaa
open Go.RowKit Go.Deep Go.ChangeShapes Go.WideShapes

theorem cells_int : Try.prog.cellsOf 3 = 1 := by kernel_rfl
theorem cells_str : Try.prog.cellsOf 9 = 1 := by kernel_rfl
theorem cells_part : Try.prog.cellsOf 51 = 10 := by kernel_rfl
theorem cells_tree : Try.prog.cellsOf 24 = 1 := by kernel_rfl
theorem bytes_int : Try.prog.bytesOf 3 = 8 := by kernel_rfl
theorem bytes_str : Try.prog.bytesOf 9 = 16 := by kernel_rfl
theorem bytes_part : Try.prog.bytesOf 51 = 120 := by kernel_rfl

section
variable {H : Type} {enc : TypeId × Value → H} {w : World} {spare : Nat → Bool} {held : Bool}

theorem open_intsF {n : Nat} {v : Value} {y : DataW H × List MemPlace} (h : DataW.trod enc Try.prog w 0 spare held n 39 [v] = some y) (hf : Fit 39 y.1) :
    ∃ (a : Option Addr) (l c : Nat) (f : Nat → Int), v = .slice a l c ∧ l ≤ 140737488351232 ∧ IntsAt w a l f := by
  obtain ⟨a, l, c, m, rfl, hl, hx⟩ := elems Try.underlying39 (by rw [bytes_int]; omega) (by rw [cells_int]; omega) h hf
  by_cases h0 : 0 < l
  · obtain ⟨b, off, rfl, hc⟩ := hx h0
    rw [cells_int] at hc
    obtain ⟨f, hf2⟩ := choose_lt (α := Int) (p := fun i x => w.cell? ⟨b, off + i, none⟩ = some (.int .i64 x)) (fun i hi => by
      obtain ⟨cs, y', hlen, hcell, ht, _⟩ := hc i hi
      match cs, hlen with
      | [v], _ =>
        obtain ⟨x, rfl⟩ := is_int Try.underlying3 ht
        have := hcell 0 (by omega)
        simp only [Nat.mul_one, Nat.add_zero] at this
        exact ⟨x, this⟩)
    exact ⟨_, l, c, f, rfl, hl, fun _ => ⟨b, off, rfl, hf2⟩⟩
  · exact ⟨a, l, c, fun _ => 0, rfl, hl, fun h => absurd h h0⟩
theorem open_strsF {n : Nat} {v : Value} {y : DataW H × List MemPlace} (h : DataW.trod enc Try.prog w 0 spare held n 38 [v] = some y) (hf : Fit 38 y.1) :
    ∃ (a : Option Addr) (l c : Nat) (f : Nat → ByteArray), v = .slice a l c ∧ l ≤ 140737488351232 ∧ StrsAt w a l f ∧ ∀ i, i < l → (f i).size ≤ 140737488351232 := by
  obtain ⟨a, l, c, m, rfl, hl, hx⟩ := elems Try.underlying38 (by rw [bytes_str]; omega) (by rw [cells_str]; omega) h hf
  by_cases h0 : 0 < l
  · obtain ⟨b, off, rfl, hc⟩ := hx h0
    rw [cells_str] at hc
    obtain ⟨f, hf2⟩ := choose_lt (α := ByteArray) (p := fun i x => w.cell? ⟨b, off + i, none⟩ = some (.string x) ∧ x.size ≤ 140737488351232) (fun i hi => by
      obtain ⟨cs, y', hlen, hcell, ht, hft⟩ := hc i hi
      match cs, hlen with
      | [v], _ =>
        obtain ⟨x, rfl, hs⟩ := is_string ht hft
        have := hcell 0 (by omega)
        simp only [Nat.mul_one, Nat.add_zero] at this
        exact ⟨x, this, hs⟩)
    exact ⟨_, l, c, f, rfl, hl, fun _ => ⟨b, off, rfl, fun i hi => (hf2 i hi).1⟩, fun i hi => (hf2 i hi).2⟩
  · exact ⟨a, l, c, fun _ => ByteArray.empty, rfl, hl, fun h => absurd h h0, fun i hi => by omega⟩

theorem open_part {n : Nat} {cs : List Value} {y : DataW H × List MemPlace} (h : DataW.trod enc Try.prog w 0 spare held n 51 cs = some y) (hf : Fit 51 y.1) :
    ∃ m : PM, m.At w ∧ m.Reach ∧ ∀ j, j < 10 → cs[j]? = m.val[j]? := by
  obtain ⟨_, n', hg⟩ := fields Try.underlying51 (by kernel_rfl) (by kernel_rfl) h hf
  obtain ⟨v0, y0, e0, t0, _⟩ := hg 0 _ rfl
  obtain ⟨v1, y1, e1, t1, _⟩ := hg 1 _ rfl
  obtain ⟨v2, y2, e2, t2, _⟩ := hg 2 _ rfl
  obtain ⟨v3, y3, e3, t3, _⟩ := hg 3 _ rfl
  obtain ⟨v4, y4, e4, t4, _⟩ := hg 4 _ rfl
  obtain ⟨v5, y5, e5, t5, _⟩ := hg 5 _ rfl
  obtain ⟨v6, y6, e6, t6, _⟩ := hg 6 _ rfl
  obtain ⟨v7, y7, e7, t7, f7⟩ := hg 7 _ rfl
  obtain ⟨v8, y8, e8, t8, f8⟩ := hg 8 _ rfl
  obtain ⟨v9, y9, e9, t9, f9⟩ := hg 9 _ rfl
  obtain ⟨x0, rfl⟩ := is_int Try.underlying3 t0
  obtain ⟨x1, rfl⟩ := is_int Try.underlying3 t1
  obtain ⟨x2, rfl⟩ := is_int Try.underlying3 t2
  obtain ⟨x3, rfl⟩ := is_int Try.underlying3 t3
  obtain ⟨x4, rfl⟩ := is_int Try.underlying3 t4
  obtain ⟨x5, rfl⟩ := is_int Try.underlying2 t5
  obtain ⟨x6, h6⟩ := trod_float Try.underlying37 t6
  simp only [List.cons.injEq, and_true] at h6
  subst h6
  obtain ⟨s7, rfl, hs7⟩ := is_string t7 f7
  obtain ⟨a8, l8, c8, g8, rfl, hl8, hi8, hr8⟩ := open_strsF t8 f8
  obtain ⟨a9, l9, c9, g9, rfl, hl9, hi9⟩ := open_intsF t9 f9
  refine ⟨⟨⟨x0, x1, x2, x3, x4, x5, x6, s7, l8, g8, l9, g9⟩, a8, c8, a9, c9⟩, ⟨hi8, hi9⟩, ⟨hs7, hl8, hl9, hr8⟩, fun j hj => ?_⟩
  have cs' : j = 0 ∨ j = 1 ∨ j = 2 ∨ j = 3 ∨ j = 4 ∨ j = 5 ∨ j = 6 ∨ j = 7 ∨ j = 8 ∨ j = 9 := by omega
  rcases cs' with rfl | rfl | rfl | rfl | rfl | rfl | rfl | rfl | rfl | rfl
  · exact e0
  · exact e1
  · exact e2
  · exact e3
  · exact e4
  · exact e5
  · exact e6
  · exact e7
  · exact e8
  · exact e9
theorem open_parts {n : Nat} {v : Value} {y : DataW H × List MemPlace} (h : DataW.trod enc Try.prog w 0 spare held n 22 [v] = some y) (hf : Fit 22 y.1) :
    ∃ t : TM, v = .slice t.pa t.np t.pc ∧ t.np ≤ 140737488351232 ∧ t.At w ∧ ∀ i, i < t.np → (t.pm i).Reach := by
  obtain ⟨a, l, c, m, rfl, hl, hx⟩ := elems Try.underlying22 (by rw [bytes_part]; omega) (by rw [cells_part]; omega) h hf
  by_cases h0 : 0 < l
  · obtain ⟨b, off, rfl, hc⟩ := hx h0
    rw [cells_part] at hc
    have : Inhabited PM := ⟨pm0⟩
    obtain ⟨pm, hf2⟩ := choose_lt (α := PM) (p := fun i x => PartCells w b (off + i * 10) x ∧ x.At w ∧ x.Reach) (fun i hi => by
      obtain ⟨cs, y', hlen, hcell, ht, hft⟩ := hc i hi
      obtain ⟨m, h1, h2, h3⟩ := open_part ht hft
      exact ⟨m, ⟨(hcell 0 (by omega)).trans (h3 0 (by omega)), (hcell 1 (by omega)).trans (h3 1 (by omega)), (hcell 2 (by omega)).trans (h3 2 (by omega)), (hcell 3 (by omega)).trans (h3 3 (by omega)), (hcell 4 (by omega)).trans (h3 4 (by omega)), (hcell 5 (by omega)).trans (h3 5 (by omega)), (hcell 6 (by omega)).trans (h3 6 (by omega)), (hcell 7 (by omega)).trans (h3 7 (by omega)), (hcell 8 (by omega)).trans (h3 8 (by omega)), (hcell 9 (by omega)).trans (h3 9 (by omega))⟩, h1, h2⟩)
    exact ⟨⟨l, pm, some ⟨b, off, none⟩, c⟩, rfl, hl, ⟨fun _ => ⟨b, off, rfl, fun i hi => (hf2 i hi).1⟩, fun i hi => (hf2 i hi).2.1⟩, fun i hi => (hf2 i hi).2.2⟩
  · exact ⟨⟨l, fun _ => pm0, a, c⟩, rfl, hl, ⟨fun h => absurd h h0, fun i hi => absurd (show 0 < l from Nat.lt_of_le_of_lt (Nat.zero_le _) hi) h0⟩, fun i hi => absurd (show 0 < l from Nat.lt_of_le_of_lt (Nat.zero_le _) hi) h0⟩
end
end Go.Proofs.Ytnokgdgikdgaeaa
