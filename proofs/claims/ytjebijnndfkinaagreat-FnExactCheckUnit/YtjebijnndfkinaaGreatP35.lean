import Derived.Test.YtjebijnndfkinaaGreatP34
import Derived.Deep.Slices
import Derived.Deep.Fields
import Derived.SizedLaws
import Derived.ProofKit
namespace Go.Proofs.YtjebijnndfkinaaGreat
open Go.RowKit Go.Deep Go.ChangeShapes Go.WideShapes

instance : Inhabited ND := ⟨⟨0, 0, 0, 0, 0, ByteArray.empty, 0, fun _ => 0, 0, fun _ => 0⟩⟩
instance : Inhabited NM := ⟨⟨default, none, 0, none, 0⟩⟩
instance : Inhabited FM := ⟨⟨ByteArray.empty, 0, 0, false, 0, fun _ => ByteArray.empty, 0, fun _ => false, fun _ => 0, 0, fun _ => default, none, 0, none, 0, none, 0⟩⟩

section
variable {H : Type} {enc : TypeId × Value → H} {w : World} {spare : Nat → Bool} {held : Bool}

/-- Each string and slice in it is within the form's reach. -/
def Fit (t : TypeId) (d : DataW H) : Prop := ∀ n, n ∈ d.weights Tryz.prog t → n ≤ 140737488351232
theorem fit_all_mem {e : TypeId} : ∀ {l : List (DataW H)}, (∀ n, n ∈ DataW.weightsAll Tryz.prog e l → n ≤ 140737488351232) → ∀ d, d ∈ l → Fit e d
  | [], _, d, hd => by cases hd
  | x :: l, h, d, hd => by
    simp only [DataW.weightsAll, List.mem_append] at h
    rcases List.mem_cons.1 hd with rfl | hd
    · exact fun n hn => h n (Or.inl hn)
    · exact fit_all_mem (fun n hn => h n (Or.inr hn)) d hd
theorem fit_slice {t e : TypeId} (hu : Tryz.prog.underlying t = some (.slice e)) {elems rest : List (DataW H)} (h : Fit t (.slice elems rest)) : (elems.length + rest.length) * Tryz.prog.bytesOf e ≤ 140737488351232 ∧ ∀ d, d ∈ elems → Fit e d := by
  unfold Fit at h
  simp only [DataW.weights, hu, List.mem_cons, List.mem_append] at h
  exact ⟨h _ (Or.inl rfl), fit_all_mem fun n hn => h n (Or.inr (Or.inl hn))⟩
theorem fit_agg {t : TypeId} {fs : Array Field} (hu : Tryz.prog.underlying t = some (.struct fs)) {parts : List (DataW H)} (h : Fit t (.agg parts)) {i : Nat} {f : Field} (hi : fs[i]? = some f) {d : DataW H} (hd : parts[i]? = some d) : Fit f.type d := by
  unfold Fit at h
  simp only [DataW.weights, hu] at h
  exact fun n hn => h n (DataW.weights_mem_each (j := i) (t := f.type) (d := d) (by simp [hi]) hd n hn)

/-- A struct of one-cell fields, field by field. -/
theorem fields {t : TypeId} {fs : Array Field} {fuel : Nat} {cs : List Value} {x : DataW H × List MemPlace} (hs : Tryz.prog.underlying t = some (.struct fs)) (hone : oneCellFields Tryz.prog fs = true) (hC : Tryz.prog.cellsOf t = fs.size) (h : DataW.trod enc Tryz.prog w 0 spare held fuel t cs = some x) (hf : Fit t x.1) :
    cs.length = fs.size ∧ ∃ n, ∀ (i : Nat) (f : Field), fs[i]? = some f → ∃ v y, cs[i]? = some v ∧ DataW.trod enc Tryz.prog w 0 spare held n f.type [v] = some y ∧ Fit f.type y.1 := by
  obtain ⟨xs, n, _, rfl, hl, hxl, hg⟩ := DataW.trod_struct hs h
  rw [hC] at hl
  refine ⟨hl, n, fun i f hi => ?_⟩
  have hlt : i < fs.size := (Array.getElem?_eq_some_iff.1 hi).1
  obtain ⟨ho, hc1⟩ := hone_of hone i f hi
  have g := hg i f hi
  rw [ho, hc1, take1_drop cs i undef (by omega)] at g
  have e1 : cs[i]? = some (cs.getD i undef) := by simp [List.getD, List.getElem?_eq_getElem (show i < cs.length by omega)]
  have e2 : xs[i]? = some (xs.getD i (.nil, [])) := by simp [List.getD, List.getElem?_eq_getElem (show i < xs.length by omega)]
  refine ⟨_, xs.getD i (.nil, []), e1, by rw [g, e2], ?_⟩
  refine fit_agg hs hf hi ?_
  rw [List.getElem?_map, e2]; rfl

/-- A slice, element by element. -/
theorem elems {t e : TypeId} {fuel : Nat} {v : Value} {x : DataW H × List MemPlace} (ht : Tryz.prog.underlying t = some (.slice e)) (hb : 1 ≤ Tryz.prog.bytesOf e) (hp : 0 < Tryz.prog.cellsOf e) (h : DataW.trod enc Tryz.prog w 0 spare held fuel t [v] = some x) (hf : Fit t x.1) :
    ∃ (a : Option Addr) (l c n : Nat), v = .slice a l c ∧ l ≤ 140737488351232 ∧ (0 < l → ∃ b off, a = some ⟨b, off, none⟩ ∧ ∀ i, i < l → ∃ cs y, cs.length = Tryz.prog.cellsOf e ∧ (∀ j, j < Tryz.prog.cellsOf e → w.cell? ⟨b, off + i * Tryz.prog.cellsOf e + j, none⟩ = cs[j]?) ∧ DataW.trod enc Tryz.prog w 0 spare held n e cs = some y ∧ Fit e y.1) := by
  rcases open_slice ht h with ⟨h0, _⟩ | ⟨a, len, cap, m, n, D, Pl, hcs, _, hl, hm, hmm, rfl, hx⟩
  · simp only [List.cons.injEq, and_true] at h0
    exact ⟨none, 0, 0, 0, h0, by omega, fun h => absurd h (Nat.lt_irrefl 0)⟩
  · simp only [List.cons.injEq, and_true] at hcs
    have hlm : len ≤ m := by rw [hmm]; split <;> omega
    obtain ⟨f1, f2⟩ := fit_slice ht hf
    simp only [List.length_map, List.length_range] at f1
    refine ⟨some a, len, cap, n, hcs, ?_, fun h0 => ?_⟩
    · have h2 : (len + (m - len)) * 1 ≤ (len + (m - len)) * Tryz.prog.bytesOf e := Nat.mul_le_mul_left _ hb
      omega
    · obtain ⟨b, off, spot⟩ := a
      have hspot : spot = none := by
        obtain ⟨cs0, g1, _⟩ := hx 0 (by omega)
        obtain ⟨_, hlen, hcell⟩ := World.cells?_some g1
        have := hcell 0 hp
        rw [List.getElem?_eq_getElem (by omega)] at this
        simpa [Addr.add] using World.cell?_spot this
      subst hspot
      refine ⟨b, off, rfl, fun i hi => ?_⟩
      obtain ⟨cs, g1, g2⟩ := hx i (by omega)
      obtain ⟨_, hlen, hcell⟩ := World.cells?_some g1
      refine ⟨cs, (D i, Pl i), hlen, fun j hj => ?_, g2, f2 _ (List.mem_map.2 ⟨i, List.mem_range.2 hi, rfl⟩)⟩
      have := hcell j hj
      rw [add_plain, add_plain] at this
      exact this

theorem trod_float {t : TypeId} {k : FloatKind} {fuel : Nat} {cs : List Value} {x : DataW H × List MemPlace} (ht : Tryz.prog.underlying t = some (.float k)) (h : DataW.trod enc Tryz.prog w 0 spare held fuel t cs = some x) : ∃ b, cs = [.float k b] := by
  cases fuel with
  | zero => simp [DataW.trod] at h
  | succ n =>
    unfold DataW.trod at h
    rw [ht] at h
    split at h <;> simp_all

theorem is_int {n : Nat} {v : Value} {y : DataW H × List MemPlace} {t : TypeId} (ht : Tryz.prog.underlying t = some (.int .i64)) (h : DataW.trod enc Tryz.prog w 0 spare held n t [v] = some y) : ∃ x, v = .int .i64 x := by
  obtain ⟨x, h1, _⟩ := DataW.trod_int ht h
  exact ⟨x, by simpa using h1⟩
theorem is_string {n : Nat} {v : Value} {y : DataW H × List MemPlace} (h : DataW.trod enc Tryz.prog w 0 spare held n 9 [v] = some y) (hf : Fit 9 y.1) : ∃ s : ByteArray, v = .string s ∧ s.size ≤ 140737488351232 := by
  obtain ⟨s, h1, h2, _⟩ := DataW.trod_string Tryz.underlying9 h
  refine ⟨s, by simpa using h1, ?_⟩
  rw [h2] at hf
  have := hf s.data.toList.length (by simp [DataW.weights])
  simpa using this
theorem is_bool {n : Nat} {v : Value} {y : DataW H × List MemPlace} (h : DataW.trod enc Tryz.prog w 0 spare held n 4 [v] = some y) : ∃ b, v = .bool b := by
  obtain ⟨b, h1, _⟩ := DataW.trod_bool Tryz.underlying4 h
  exact ⟨b, by simpa using h1⟩
end
end Go.Proofs.YtjebijnndfkinaaGreat

namespace Go.Proofs.YtjebijnndfkinaaGreat
open Go.RowKit Go.Deep Go.ChangeShapes Go.WideShapes

theorem cells_int : Tryz.prog.cellsOf 3 = 1 := by kernel_rfl
theorem cells_str : Tryz.prog.cellsOf 9 = 1 := by kernel_rfl
theorem cells_up : Tryz.prog.cellsOf 142 = 2 := by kernel_rfl
theorem cells_node : Tryz.prog.cellsOf 135 = 8 := by kernel_rfl
theorem cells_fn : Tryz.prog.cellsOf 57 = 7 := by kernel_rfl
theorem cells_unit : Tryz.prog.cellsOf 24 = 1 := by kernel_rfl
theorem bytes_int : Tryz.prog.bytesOf 3 = 8 := by kernel_rfl
theorem bytes_str : Tryz.prog.bytesOf 9 = 16 := by kernel_rfl
theorem bytes_up : Tryz.prog.bytesOf 142 = 16 := by kernel_rfl
theorem bytes_node : Tryz.prog.bytesOf 135 = 104 := by kernel_rfl
theorem bytes_fn : Tryz.prog.bytesOf 57 = 112 := by kernel_rfl

section
variable {H : Type} {enc : TypeId × Value → H} {w : World} {spare : Nat → Bool} {held : Bool}

theorem open_intsF {n : Nat} {v : Value} {y : DataW H × List MemPlace} (h : DataW.trod enc Tryz.prog w 0 spare held n 65 [v] = some y) (hf : Fit 65 y.1) :
    ∃ (a : Option Addr) (l c : Nat) (f : Nat → Int), v = .slice a l c ∧ l ≤ 140737488351232 ∧ IntsAt w a l f := by
  obtain ⟨a, l, c, m, rfl, hl, hx⟩ := elems Tryz.underlying65 (by rw [bytes_int]; omega) (by rw [cells_int]; omega) h hf
  by_cases h0 : 0 < l
  · obtain ⟨b, off, rfl, hc⟩ := hx h0
    rw [cells_int] at hc
    obtain ⟨f, hf2⟩ := choose_lt (α := Int) (p := fun i x => w.cell? ⟨b, off + i, none⟩ = some (.int .i64 x)) (fun i hi => by
      obtain ⟨cs, y', hlen, hcell, ht, _⟩ := hc i hi
      match cs, hlen with
      | [v], _ =>
        obtain ⟨x, rfl⟩ := is_int Tryz.underlying3 ht
        have := hcell 0 (by omega)
        simp only [Nat.mul_one, Nat.add_zero] at this
        exact ⟨x, this⟩)
    exact ⟨_, l, c, f, rfl, hl, fun _ => ⟨b, off, rfl, hf2⟩⟩
  · exact ⟨a, l, c, fun _ => 0, rfl, hl, fun h => absurd h h0⟩
theorem open_strsF {n : Nat} {v : Value} {y : DataW H × List MemPlace} (h : DataW.trod enc Tryz.prog w 0 spare held n 53 [v] = some y) (hf : Fit 53 y.1) :
    ∃ (a : Option Addr) (l c : Nat) (f : Nat → ByteArray), v = .slice a l c ∧ l ≤ 140737488351232 ∧ StrsAt w a l f ∧ ∀ i, i < l → (f i).size ≤ 140737488351232 := by
  obtain ⟨a, l, c, m, rfl, hl, hx⟩ := elems Tryz.underlying53 (by rw [bytes_str]; omega) (by rw [cells_str]; omega) h hf
  by_cases h0 : 0 < l
  · obtain ⟨b, off, rfl, hc⟩ := hx h0
    rw [cells_str] at hc
    obtain ⟨f, hf2⟩ := choose_lt (α := ByteArray) (p := fun i x => w.cell? ⟨b, off + i, none⟩ = some (.string x) ∧ x.size ≤ 140737488351232) (fun i hi => by
      obtain ⟨cs, y', hlen, hcell, ht, hft⟩ := hc i hi
      match cs, hlen with
      | [v], _ =>
        obtain ⟨x, rfl, hs⟩ := is_string ht hft
        have := hcell 0 (by omega)
        simp only [Nat.mul_one, Nat.add_zero] at this
        exact ⟨x, this, hs⟩)
    exact ⟨_, l, c, f, rfl, hl, fun _ => ⟨b, off, rfl, fun i hi => (hf2 i hi).1⟩, fun i hi => (hf2 i hi).2⟩
  · exact ⟨a, l, c, fun _ => ByteArray.empty, rfl, hl, fun h => absurd h h0, fun i hi => by omega⟩
theorem open_upsF {n : Nat} {v : Value} {y : DataW H × List MemPlace} (h : DataW.trod enc Tryz.prog w 0 spare held n 54 [v] = some y) (hf : Fit 54 y.1) :
    ∃ (a : Option Addr) (l c : Nat) (g : Nat → Bool) (f : Nat → Int), v = .slice a l c ∧ l ≤ 140737488351232 ∧ UpsAt w a l g f := by
  obtain ⟨a, l, c, m, rfl, hl, hx⟩ := elems Tryz.underlying54 (by rw [bytes_up]; omega) (by rw [cells_up]; omega) h hf
  by_cases h0 : 0 < l
  · obtain ⟨b, off, rfl, hc⟩ := hx h0
    rw [cells_up] at hc
    obtain ⟨f, hf2⟩ := choose_lt (α := Bool × Int) (p := fun i x => w.cell? ⟨b, off + i * 2, none⟩ = some (.bool x.1) ∧ w.cell? ⟨b, off + i * 2 + 1, none⟩ = some (.int .i64 x.2)) (fun i hi => by
      obtain ⟨cs, y', hlen, hcell, ht, hft⟩ := hc i hi
      obtain ⟨_, n', hg⟩ := fields Tryz.underlying142 (by kernel_rfl) (by kernel_rfl) ht hft
      obtain ⟨v0, y0, e0, t0, _⟩ := hg 0 _ rfl
      obtain ⟨v1, y1, e1, t1, _⟩ := hg 1 _ rfl
      obtain ⟨b0, rfl⟩ := is_bool t0
      obtain ⟨x1, rfl⟩ := is_int Tryz.underlying3 t1
      exact ⟨(b0, x1), (hcell 0 (by omega)).trans e0, (hcell 1 (by omega)).trans e1⟩)
    exact ⟨_, l, c, fun i => (f i).1, fun i => (f i).2, rfl, hl, fun _ => ⟨b, off, rfl, hf2⟩⟩
  · exact ⟨a, l, c, fun _ => false, fun _ => 0, rfl, hl, fun h => absurd h h0⟩

theorem open_node {n : Nat} {cs : List Value} {y : DataW H × List MemPlace} (h : DataW.trod enc Tryz.prog w 0 spare held n 135 cs = some y) (hf : Fit 135 y.1) :
    ∃ m : NM, m.At w ∧ m.Reach ∧ ∀ j, j < 8 → cs[j]? = m.val[j]? := by
  obtain ⟨_, n', hg⟩ := fields Tryz.underlying135 (by kernel_rfl) (by kernel_rfl) h hf
  obtain ⟨v0, y0, e0, t0, _⟩ := hg 0 _ rfl
  obtain ⟨v1, y1, e1, t1, _⟩ := hg 1 _ rfl
  obtain ⟨v2, y2, e2, t2, _⟩ := hg 2 _ rfl
  obtain ⟨v3, y3, e3, t3, _⟩ := hg 3 _ rfl
  obtain ⟨v4, y4, e4, t4, _⟩ := hg 4 _ rfl
  obtain ⟨v5, y5, e5, t5, f5⟩ := hg 5 _ rfl
  obtain ⟨v6, y6, e6, t6, f6⟩ := hg 6 _ rfl
  obtain ⟨v7, y7, e7, t7, f7⟩ := hg 7 _ rfl
  obtain ⟨x0, rfl⟩ := is_int Tryz.underlying3 t0
  obtain ⟨x1, rfl⟩ := is_int Tryz.underlying3 t1
  obtain ⟨x2, rfl⟩ := is_int Tryz.underlying3 t2
  obtain ⟨x3, rfl⟩ := is_int Tryz.underlying2 t3
  obtain ⟨x4, h4⟩ := trod_float Tryz.underlying69 t4
  simp only [List.cons.injEq, and_true] at h4
  subst h4
  obtain ⟨s5, rfl, hs5⟩ := is_string t5 f5
  obtain ⟨a6, l6, c6, g6, rfl, hl6, hi6⟩ := open_intsF t6 f6
  obtain ⟨a7, l7, c7, g7, rfl, hl7, hi7⟩ := open_intsF t7 f7
  refine ⟨⟨⟨x0, x1, x2, x3, x4, s5, l6, g6, l7, g7⟩, a6, c6, a7, c7⟩, ⟨hi6, hi7⟩, ⟨hs5, hl6, hl7⟩, fun j hj => ?_⟩
  have cs' : j = 0 ∨ j = 1 ∨ j = 2 ∨ j = 3 ∨ j = 4 ∨ j = 5 ∨ j = 6 ∨ j = 7 := by omega
  rcases cs' with rfl | rfl | rfl | rfl | rfl | rfl | rfl | rfl
  · exact e0
  · exact e1
  · exact e2
  · exact e3
  · exact e4
  · exact e5
  · exact e6
  · exact e7
theorem open_nodes {n : Nat} {v : Value} {y : DataW H × List MemPlace} (h : DataW.trod enc Tryz.prog w 0 spare held n 55 [v] = some y) (hf : Fit 55 y.1) :
    ∃ (a : Option Addr) (l c : Nat) (nm : Nat → NM), v = .slice a l c ∧ l ≤ 140737488351232 ∧ NodesAt w a l nm ∧ ∀ i, i < l → (nm i).Reach := by
  obtain ⟨a, l, c, m, rfl, hl, hx⟩ := elems Tryz.underlying55 (by rw [bytes_node]; omega) (by rw [cells_node]; omega) h hf
  by_cases h0 : 0 < l
  · obtain ⟨b, off, rfl, hc⟩ := hx h0
    rw [cells_node] at hc
    obtain ⟨nm, hf2⟩ := choose_lt (α := NM) (p := fun i x => NodeCells w b (off + i * 8) x ∧ x.At w ∧ x.Reach) (fun i hi => by
      obtain ⟨cs, y', hlen, hcell, ht, hft⟩ := hc i hi
      obtain ⟨m, h1, h2, h3⟩ := open_node ht hft
      exact ⟨m, ⟨(hcell 0 (by omega)).trans (h3 0 (by omega)), (hcell 1 (by omega)).trans (h3 1 (by omega)), (hcell 2 (by omega)).trans (h3 2 (by omega)), (hcell 3 (by omega)).trans (h3 3 (by omega)), (hcell 4 (by omega)).trans (h3 4 (by omega)), (hcell 5 (by omega)).trans (h3 5 (by omega)), (hcell 6 (by omega)).trans (h3 6 (by omega)), (hcell 7 (by omega)).trans (h3 7 (by omega))⟩, h1, h2⟩)
    exact ⟨_, l, c, nm, rfl, hl, ⟨fun _ => ⟨b, off, rfl, fun i hi => (hf2 i hi).1⟩, fun i hi => (hf2 i hi).2.1⟩, fun i hi => (hf2 i hi).2.2⟩
  · exact ⟨a, l, c, fun _ => default, rfl, hl, ⟨fun h => absurd h h0, fun i hi => by omega⟩, fun i hi => by omega⟩
theorem open_fn {n : Nat} {cs : List Value} {y : DataW H × List MemPlace} (h : DataW.trod enc Tryz.prog w 0 spare held n 57 cs = some y) (hf : Fit 57 y.1) :
    ∃ m : FM, m.At w ∧ m.Reach ∧ ∀ j, j < 7 → cs[j]? = m.val[j]? := by
  obtain ⟨_, n', hg⟩ := fields Tryz.underlying57 (by kernel_rfl) (by kernel_rfl) h hf
  obtain ⟨v0, y0, e0, t0, f0⟩ := hg 0 _ rfl
  obtain ⟨v1, y1, e1, t1, _⟩ := hg 1 _ rfl
  obtain ⟨v2, y2, e2, t2, _⟩ := hg 2 _ rfl
  obtain ⟨v3, y3, e3, t3, _⟩ := hg 3 _ rfl
  obtain ⟨v4, y4, e4, t4, f4⟩ := hg 4 _ rfl
  obtain ⟨v5, y5, e5, t5, f5⟩ := hg 5 _ rfl
  obtain ⟨v6, y6, e6, t6, f6⟩ := hg 6 _ rfl
  obtain ⟨s0, rfl, hs0⟩ := is_string t0 f0
  obtain ⟨x1, rfl⟩ := is_int Tryz.underlying3 t1
  obtain ⟨x2, rfl⟩ := is_int Tryz.underlying3 t2
  obtain ⟨b3, rfl⟩ := is_bool t3
  obtain ⟨a4, l4, c4, g4, rfl, hl4, hi4, hr4⟩ := open_strsF t4 f4
  obtain ⟨a5, l5, c5, p5, g5, rfl, hl5, hi5⟩ := open_upsF t5 f5
  obtain ⟨a6, l6, c6, g6, rfl, hl6, hi6, hr6⟩ := open_nodes t6 f6
  refine ⟨⟨s0, x1, x2, b3, l4, g4, l5, p5, g5, l6, g6, a4, c4, a5, c5, a6, c6⟩, ⟨hi4, hi5, hi6⟩, ⟨hs0, hl4, hl5, hl6, hr4, hr6⟩, fun j hj => ?_⟩
  have cs' : j = 0 ∨ j = 1 ∨ j = 2 ∨ j = 3 ∨ j = 4 ∨ j = 5 ∨ j = 6 := by omega
  rcases cs' with rfl | rfl | rfl | rfl | rfl | rfl | rfl
  · exact e0
  · exact e1
  · exact e2
  · exact e3
  · exact e4
  · exact e5
  · exact e6
theorem open_fns {n : Nat} {v : Value} {y : DataW H × List MemPlace} (h : DataW.trod enc Tryz.prog w 0 spare held n 22 [v] = some y) (hf : Fit 22 y.1) :
    ∃ u : UM, v = .slice u.fa u.nf u.fc ∧ u.nf ≤ 140737488351232 ∧ u.At w ∧ ∀ i, i < u.nf → (u.fm i).Reach := by
  obtain ⟨a, l, c, m, rfl, hl, hx⟩ := elems Tryz.underlying22 (by rw [bytes_fn]; omega) (by rw [cells_fn]; omega) h hf
  by_cases h0 : 0 < l
  · obtain ⟨b, off, rfl, hc⟩ := hx h0
    rw [cells_fn] at hc
    obtain ⟨fm, hf2⟩ := choose_lt (α := FM) (p := fun i x => FnCells w b (off + i * 7) x ∧ x.At w ∧ x.Reach) (fun i hi => by
      obtain ⟨cs, y', hlen, hcell, ht, hft⟩ := hc i hi
      obtain ⟨m, h1, h2, h3⟩ := open_fn ht hft
      exact ⟨m, ⟨(hcell 0 (by omega)).trans (h3 0 (by omega)), (hcell 1 (by omega)).trans (h3 1 (by omega)), (hcell 2 (by omega)).trans (h3 2 (by omega)), (hcell 3 (by omega)).trans (h3 3 (by omega)), (hcell 4 (by omega)).trans (h3 4 (by omega)), (hcell 5 (by omega)).trans (h3 5 (by omega)), (hcell 6 (by omega)).trans (h3 6 (by omega))⟩, h1, h2⟩)
    exact ⟨⟨l, fm, some ⟨b, off, none⟩, c⟩, rfl, hl, ⟨fun _ => ⟨b, off, rfl, fun i hi => (hf2 i hi).1⟩, fun i hi => (hf2 i hi).2.1⟩, fun i hi => (hf2 i hi).2.2⟩
  · exact ⟨⟨l, fun _ => default, a, c⟩, rfl, hl, ⟨fun h => absurd h h0, fun i hi => absurd (show 0 < l from Nat.lt_of_le_of_lt (Nat.zero_le _) hi) h0⟩, fun i hi => absurd (show 0 < l from Nat.lt_of_le_of_lt (Nat.zero_le _) hi) h0⟩
end
end Go.Proofs.YtjebijnndfkinaaGreat
