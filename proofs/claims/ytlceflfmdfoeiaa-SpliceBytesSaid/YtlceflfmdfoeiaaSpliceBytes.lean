/- Proved: for every input of the given statement on splice.Bytes (the bytes of any segment, turned word by word, are those of the segment that was turned, its sum too) the function of the statement returns true and leaves its arguments as they were; no condition beside the form's own. -/
import Derived.Test.YtlceflfmdfoeiaaRows
import Derived.WalkKit
import Derived.ProofKit
import Derived.OpenShut
import Derived.ShutString
import Derived.ChangeOld
import Derived.Below
import Derived.Lib.SmallJoins
import Derived.Test.YtlceflfmdfoeiaaLaw28s
namespace Go.Proofs.Ytlceflfmdfoeiaa.spliceBytes
open Go.ChangeShapes Go.WideShapes Go.ChangeAt Go.RowKit
open Go.ChangeMaps (open_string shut_string)
set_option linter.unusedVariables false

theorem own : ownKnob Try.prog.godebug = none := by kernel_rfl
theorem laidOut : laidOutB Try.prog = true := by kernel_rfl

def IsRow (k : IntKind) (w : World) (a : Option Addr) (len cap : Nat) (zs : List Int) : Prop :=
  (a = none ∧ len = 0 ∧ cap = 0 ∧ zs = []) ∨
  ∃ x, a = some x ∧ len ≤ cap ∧ cap ≤ maxLen ∧ zs.length = cap ∧ (∀ i, i < zs.length → w.cell? (x.add i) = some (.int k (zs.getD i 0))) ∧ ∀ n ∈ zs, (Lit.int k n).wf = true

theorem cons_of {α : Type} {l : List α} {n : Nat} (h : l.length = n + 1) : ∃ c l1, l = c :: l1 ∧ l1.length = n := by
  cases l with
  | nil => cases h
  | cons c l => exact ⟨c, l, rfl, by simpa using h⟩
theorem cells23 : Try.prog.cellsOf 23 = 1 := by kernel_rfl
theorem cells22 : Try.prog.cellsOf 22 = 1 := by kernel_rfl
theorem cells5 : Try.prog.cellsOf 5 = 1 := by kernel_rfl
theorem cells24 : Try.prog.cellsOf 24 = 1 := by kernel_rfl
theorem cells26 : Try.prog.cellsOf 26 = 10 := by kernel_rfl
theorem cells28 : Try.prog.cellsOf 28 = 6 := by kernel_rfl
theorem okArray {P : Program} {w : World} {r : Reach} {base : Nat} {v : Value} {n : Nat} {e t : TypeId} (ht : P.underlying t = some (.array n e)) (h : Value.okWide P w r base t v) : ∃ cs, v = .agg cs ∧ cs.size = P.cellsOf t := by
  simp only [Value.okWide, ht] at h
  obtain ⟨cs, h1, h2, _⟩ := h
  exact ⟨cs, h1, h2⟩
theorem isRow_of {H : Type} {enc : TypeId × Value → H} {P : Program} {W : World} {t e : TypeId} {k : IntKind} {n : Nat} {a : Option Addr} {len cap : Nat} {y : DataW H × List MemPlace} (ht : P.underlying t = some (.slice e)) (he : P.underlying e = some (.int k)) (hc : P.cellsOf e = 1)
    (hf : DataW.trod enc P W 0 (fun _ => true) true n t [.slice a len cap] = some y) : ∃ zs, IsRow k W a len cap zs := by
  rcases open_ints ht he hc hf with ⟨hcs, _⟩ | ⟨x, l, c, zs, hcs, _, hl, hm, hz, _, hcell, hwz⟩
  · simp at hcs
    obtain ⟨rfl, rfl, rfl⟩ := hcs
    exact ⟨[], .inl ⟨rfl, rfl, rfl, rfl⟩⟩
  · simp at hcs
    obtain ⟨rfl, rfl, rfl⟩ := hcs
    exact ⟨zs, .inr ⟨_, rfl, hl, hm, by simpa using hz, hcell, hwz⟩⟩
theorem list10 {α : Type} (l : List α) (h : l.length = 10) : ∃ c0 c1 c2 c3 c4 c5 c6 c7 c8 c9, l = [c0, c1, c2, c3, c4, c5, c6, c7, c8, c9] := by
  obtain ⟨c0, l0, e0, h0⟩ := cons_of h
  obtain ⟨c1, l1, e1, h1⟩ := cons_of h0
  obtain ⟨c2, l2, e2, h2⟩ := cons_of h1
  obtain ⟨c3, l3, e3, h3⟩ := cons_of h2
  obtain ⟨c4, l4, e4, h4⟩ := cons_of h3
  obtain ⟨c5, l5, e5, h5⟩ := cons_of h4
  obtain ⟨c6, l6, e6, h6⟩ := cons_of h5
  obtain ⟨c7, l7, e7, h7⟩ := cons_of h6
  obtain ⟨c8, l8, e8, h8⟩ := cons_of h7
  obtain ⟨c9, l9, e9, h9⟩ := cons_of h8
  have e10 := List.eq_nil_of_length_eq_zero h9
  subst e10 e9 e8 e7 e6 e5 e4 e3 e2 e1 e0
  exact ⟨c0, c1, c2, c3, c4, c5, c6, c7, c8, c9, rfl⟩
set_option maxRecDepth 100000 in
theorem open26 {H : Type} {enc : TypeId × Value → H} {W : World} {base : Nat} {v : Value} {d : DataW H} {p : List MemPlace} (hv : Value.okWide Try.prog W .any base 26 v) (h : DataW.Trod enc Try.prog W 0 (fun _ => true) true 26 v d p) :
    ∃ (ax_0 : Int) (ax_1 : Int) (ax_2 : Int) (ax_3 : Int) (ax_4 : Int) (ax_5 : Int) (ax_6 : Int) (ax_7 : Int) (ax_8 : Option Addr) (lenx_8 capx_8 : Nat) (zx_8 : List Int) (ax_9 : Option Addr) (lenx_9 capx_9 : Nat) (zx_9 : List Int), (Lit.int .u16 ax_0).wf = true ∧ (Lit.int .u16 ax_1).wf = true ∧ (Lit.int .u32 ax_2).wf = true ∧ (Lit.int .u32 ax_3).wf = true ∧ (Lit.int .u8 ax_4).wf = true ∧ (Lit.int .u8 ax_5).wf = true ∧ (Lit.int .u16 ax_6).wf = true ∧ (Lit.int .u16 ax_7).wf = true ∧ IsRow .u8 W ax_8 lenx_8 capx_8 zx_8 ∧ IsRow .u8 W ax_9 lenx_9 capx_9 zx_9 ∧ v = .agg #[.int .u16 ax_0, .int .u16 ax_1, .int .u32 ax_2, .int .u32 ax_3, .int .u8 ax_4, .int .u8 ax_5, .int .u16 ax_6, .int .u16 ax_7, .slice ax_8 lenx_8 capx_8, .slice ax_9 lenx_9 capx_9] := by
  obtain ⟨cs, rfl, hsz⟩ := okWide_struct Try.underlying26 hv
  rw [cells26] at hsz
  obtain ⟨l⟩ := cs
  have hsz2 : l.length = 10 := hsz
  obtain ⟨c0, c1, c2, c3, c4, c5, c6, c7, c8, c9, rfl⟩ := list10 l hsz2
  obtain ⟨fuel, hf⟩ := h
  have hf : DataW.trod enc Try.prog W 0 (fun _ => true) true fuel 26 [c0, c1, c2, c3, c4, c5, c6, c7, c8, c9] = some (d, p) := hf
  obtain ⟨xs0, n0, -, -, -, hl0, hx0⟩ := DataW.trod_struct Try.underlying26 hf
  obtain ⟨y0_0, hy0_0⟩ : ∃ y, xs0[0]? = some y := ⟨_, List.getElem?_eq_getElem (by rw [hl0]; decide)⟩
  have g0_0 : DataW.trod enc Try.prog W 0 (fun _ => true) true n0 23 [c0] = some y0_0 := by
    have g0 := hx0 0 _ rfl
    rw [hy0_0] at g0
    simpa [Value.cells, cells23] using g0
  obtain ⟨y0_1, hy0_1⟩ : ∃ y, xs0[1]? = some y := ⟨_, List.getElem?_eq_getElem (by rw [hl0]; decide)⟩
  have g0_1 : DataW.trod enc Try.prog W 0 (fun _ => true) true n0 23 [c1] = some y0_1 := by
    have g0 := hx0 1 _ rfl
    rw [hy0_1] at g0
    simpa [Value.cells, cells23] using g0
  obtain ⟨y0_2, hy0_2⟩ : ∃ y, xs0[2]? = some y := ⟨_, List.getElem?_eq_getElem (by rw [hl0]; decide)⟩
  have g0_2 : DataW.trod enc Try.prog W 0 (fun _ => true) true n0 22 [c2] = some y0_2 := by
    have g0 := hx0 2 _ rfl
    rw [hy0_2] at g0
    simpa [Value.cells, cells22] using g0
  obtain ⟨y0_3, hy0_3⟩ : ∃ y, xs0[3]? = some y := ⟨_, List.getElem?_eq_getElem (by rw [hl0]; decide)⟩
  have g0_3 : DataW.trod enc Try.prog W 0 (fun _ => true) true n0 22 [c3] = some y0_3 := by
    have g0 := hx0 3 _ rfl
    rw [hy0_3] at g0
    simpa [Value.cells, cells22] using g0
  obtain ⟨y0_4, hy0_4⟩ : ∃ y, xs0[4]? = some y := ⟨_, List.getElem?_eq_getElem (by rw [hl0]; decide)⟩
  have g0_4 : DataW.trod enc Try.prog W 0 (fun _ => true) true n0 5 [c4] = some y0_4 := by
    have g0 := hx0 4 _ rfl
    rw [hy0_4] at g0
    simpa [Value.cells, cells5] using g0
  obtain ⟨y0_5, hy0_5⟩ : ∃ y, xs0[5]? = some y := ⟨_, List.getElem?_eq_getElem (by rw [hl0]; decide)⟩
  have g0_5 : DataW.trod enc Try.prog W 0 (fun _ => true) true n0 5 [c5] = some y0_5 := by
    have g0 := hx0 5 _ rfl
    rw [hy0_5] at g0
    simpa [Value.cells, cells5] using g0
  obtain ⟨y0_6, hy0_6⟩ : ∃ y, xs0[6]? = some y := ⟨_, List.getElem?_eq_getElem (by rw [hl0]; decide)⟩
  have g0_6 : DataW.trod enc Try.prog W 0 (fun _ => true) true n0 23 [c6] = some y0_6 := by
    have g0 := hx0 6 _ rfl
    rw [hy0_6] at g0
    simpa [Value.cells, cells23] using g0
  obtain ⟨y0_7, hy0_7⟩ : ∃ y, xs0[7]? = some y := ⟨_, List.getElem?_eq_getElem (by rw [hl0]; decide)⟩
  have g0_7 : DataW.trod enc Try.prog W 0 (fun _ => true) true n0 23 [c7] = some y0_7 := by
    have g0 := hx0 7 _ rfl
    rw [hy0_7] at g0
    simpa [Value.cells, cells23] using g0
  obtain ⟨y0_8, hy0_8⟩ : ∃ y, xs0[8]? = some y := ⟨_, List.getElem?_eq_getElem (by rw [hl0]; decide)⟩
  have g0_8 : DataW.trod enc Try.prog W 0 (fun _ => true) true n0 24 [c8] = some y0_8 := by
    have g0 := hx0 8 _ rfl
    rw [hy0_8] at g0
    simpa [Value.cells, cells24] using g0
  obtain ⟨y0_9, hy0_9⟩ : ∃ y, xs0[9]? = some y := ⟨_, List.getElem?_eq_getElem (by rw [hl0]; decide)⟩
  have g0_9 : DataW.trod enc Try.prog W 0 (fun _ => true) true n0 24 [c9] = some y0_9 := by
    have g0 := hx0 9 _ rfl
    rw [hy0_9] at g0
    simpa [Value.cells, cells24] using g0
  clear hf hx0
  obtain ⟨ax_0, ex_0, -, wx_0⟩ := DataW.trod_int Try.underlying23 g0_0
  obtain rfl : c0 = .int .u16 ax_0 := by simpa using ex_0
  clear g0_0 ex_0
  obtain ⟨ax_1, ex_1, -, wx_1⟩ := DataW.trod_int Try.underlying23 g0_1
  obtain rfl : c1 = .int .u16 ax_1 := by simpa using ex_1
  clear g0_1 ex_1
  obtain ⟨ax_2, ex_2, -, wx_2⟩ := DataW.trod_int Try.underlying22 g0_2
  obtain rfl : c2 = .int .u32 ax_2 := by simpa using ex_2
  clear g0_2 ex_2
  obtain ⟨ax_3, ex_3, -, wx_3⟩ := DataW.trod_int Try.underlying22 g0_3
  obtain rfl : c3 = .int .u32 ax_3 := by simpa using ex_3
  clear g0_3 ex_3
  obtain ⟨ax_4, ex_4, -, wx_4⟩ := DataW.trod_int Try.underlying5 g0_4
  obtain rfl : c4 = .int .u8 ax_4 := by simpa using ex_4
  clear g0_4 ex_4
  obtain ⟨ax_5, ex_5, -, wx_5⟩ := DataW.trod_int Try.underlying5 g0_5
  obtain rfl : c5 = .int .u8 ax_5 := by simpa using ex_5
  clear g0_5 ex_5
  obtain ⟨ax_6, ex_6, -, wx_6⟩ := DataW.trod_int Try.underlying23 g0_6
  obtain rfl : c6 = .int .u16 ax_6 := by simpa using ex_6
  clear g0_6 ex_6
  obtain ⟨ax_7, ex_7, -, wx_7⟩ := DataW.trod_int Try.underlying23 g0_7
  obtain rfl : c7 = .int .u16 ax_7 := by simpa using ex_7
  clear g0_7 ex_7
  obtain ⟨ax_8, lenx_8, capx_8, ex_8⟩ := Go.Joins.slice_form Try.underlying24 g0_8
  obtain rfl : c8 = .slice ax_8 lenx_8 capx_8 := by simpa using ex_8
  obtain ⟨zx_8, wx_8⟩ := isRow_of Try.underlying24 Try.underlying5 (by kernel_rfl) g0_8
  clear g0_8 ex_8
  obtain ⟨ax_9, lenx_9, capx_9, ex_9⟩ := Go.Joins.slice_form Try.underlying24 g0_9
  obtain rfl : c9 = .slice ax_9 lenx_9 capx_9 := by simpa using ex_9
  obtain ⟨zx_9, wx_9⟩ := isRow_of Try.underlying24 Try.underlying5 (by kernel_rfl) g0_9
  clear g0_9 ex_9
  exact ⟨ax_0, ax_1, ax_2, ax_3, ax_4, ax_5, ax_6, ax_7, ax_8, lenx_8, capx_8, zx_8, ax_9, lenx_9, capx_9, zx_9, wx_0, wx_1, wx_2, wx_3, wx_4, wx_5, wx_6, wx_7, wx_8, wx_9, rfl⟩
theorem list6 {α : Type} (l : List α) (h : l.length = 6) : ∃ c0 c1 c2 c3 c4 c5, l = [c0, c1, c2, c3, c4, c5] := by
  obtain ⟨c0, l0, e0, h0⟩ := cons_of h
  obtain ⟨c1, l1, e1, h1⟩ := cons_of h0
  obtain ⟨c2, l2, e2, h2⟩ := cons_of h1
  obtain ⟨c3, l3, e3, h3⟩ := cons_of h2
  obtain ⟨c4, l4, e4, h4⟩ := cons_of h3
  obtain ⟨c5, l5, e5, h5⟩ := cons_of h4
  have e6 := List.eq_nil_of_length_eq_zero h5
  subst e6 e5 e4 e3 e2 e1 e0
  exact ⟨c0, c1, c2, c3, c4, c5, rfl⟩
set_option maxRecDepth 100000 in
theorem open28 {H : Type} {enc : TypeId × Value → H} {W : World} {base : Nat} {v : Value} {d : DataW H} {p : List MemPlace} (hv : Value.okWide Try.prog W .any base 28 v) (h : DataW.Trod enc Try.prog W 0 (fun _ => true) true 28 v d p) :
    ∃ (ax_0 : Int) (ax_1 : Int) (ax_2 : Int) (ax_3 : Int) (ax_4 : Int) (ax_5 : Int), (Lit.int .u32 ax_0).wf = true ∧ (Lit.int .u32 ax_1).wf = true ∧ (Lit.int .u16 ax_2).wf = true ∧ (Lit.int .u16 ax_3).wf = true ∧ (Lit.int .u32 ax_4).wf = true ∧ (Lit.int .u32 ax_5).wf = true ∧ v = .agg #[.int .u32 ax_0, .int .u32 ax_1, .int .u16 ax_2, .int .u16 ax_3, .int .u32 ax_4, .int .u32 ax_5] := by
  obtain ⟨cs, rfl, hsz⟩ := okWide_struct Try.underlying28 hv
  rw [cells28] at hsz
  obtain ⟨l⟩ := cs
  have hsz2 : l.length = 6 := hsz
  obtain ⟨c0, c1, c2, c3, c4, c5, rfl⟩ := list6 l hsz2
  obtain ⟨fuel, hf⟩ := h
  have hf : DataW.trod enc Try.prog W 0 (fun _ => true) true fuel 28 [c0, c1, c2, c3, c4, c5] = some (d, p) := hf
  obtain ⟨xs1, n1, -, -, -, hl1, hx1⟩ := DataW.trod_struct Try.underlying28 hf
  obtain ⟨y1_0, hy1_0⟩ : ∃ y, xs1[0]? = some y := ⟨_, List.getElem?_eq_getElem (by rw [hl1]; decide)⟩
  have g1_0 : DataW.trod enc Try.prog W 0 (fun _ => true) true n1 22 [c0] = some y1_0 := by
    have g0 := hx1 0 _ rfl
    rw [hy1_0] at g0
    simpa [Value.cells, cells22] using g0
  obtain ⟨y1_1, hy1_1⟩ : ∃ y, xs1[1]? = some y := ⟨_, List.getElem?_eq_getElem (by rw [hl1]; decide)⟩
  have g1_1 : DataW.trod enc Try.prog W 0 (fun _ => true) true n1 22 [c1] = some y1_1 := by
    have g0 := hx1 1 _ rfl
    rw [hy1_1] at g0
    simpa [Value.cells, cells22] using g0
  obtain ⟨y1_2, hy1_2⟩ : ∃ y, xs1[2]? = some y := ⟨_, List.getElem?_eq_getElem (by rw [hl1]; decide)⟩
  have g1_2 : DataW.trod enc Try.prog W 0 (fun _ => true) true n1 23 [c2] = some y1_2 := by
    have g0 := hx1 2 _ rfl
    rw [hy1_2] at g0
    simpa [Value.cells, cells23] using g0
  obtain ⟨y1_3, hy1_3⟩ : ∃ y, xs1[3]? = some y := ⟨_, List.getElem?_eq_getElem (by rw [hl1]; decide)⟩
  have g1_3 : DataW.trod enc Try.prog W 0 (fun _ => true) true n1 23 [c3] = some y1_3 := by
    have g0 := hx1 3 _ rfl
    rw [hy1_3] at g0
    simpa [Value.cells, cells23] using g0
  obtain ⟨y1_4, hy1_4⟩ : ∃ y, xs1[4]? = some y := ⟨_, List.getElem?_eq_getElem (by rw [hl1]; decide)⟩
  have g1_4 : DataW.trod enc Try.prog W 0 (fun _ => true) true n1 22 [c4] = some y1_4 := by
    have g0 := hx1 4 _ rfl
    rw [hy1_4] at g0
    simpa [Value.cells, cells22] using g0
  obtain ⟨y1_5, hy1_5⟩ : ∃ y, xs1[5]? = some y := ⟨_, List.getElem?_eq_getElem (by rw [hl1]; decide)⟩
  have g1_5 : DataW.trod enc Try.prog W 0 (fun _ => true) true n1 22 [c5] = some y1_5 := by
    have g0 := hx1 5 _ rfl
    rw [hy1_5] at g0
    simpa [Value.cells, cells22] using g0
  clear hf hx1
  obtain ⟨ax_0, ex_0, -, wx_0⟩ := DataW.trod_int Try.underlying22 g1_0
  obtain rfl : c0 = .int .u32 ax_0 := by simpa using ex_0
  clear g1_0 ex_0
  obtain ⟨ax_1, ex_1, -, wx_1⟩ := DataW.trod_int Try.underlying22 g1_1
  obtain rfl : c1 = .int .u32 ax_1 := by simpa using ex_1
  clear g1_1 ex_1
  obtain ⟨ax_2, ex_2, -, wx_2⟩ := DataW.trod_int Try.underlying23 g1_2
  obtain rfl : c2 = .int .u16 ax_2 := by simpa using ex_2
  clear g1_2 ex_2
  obtain ⟨ax_3, ex_3, -, wx_3⟩ := DataW.trod_int Try.underlying23 g1_3
  obtain rfl : c3 = .int .u16 ax_3 := by simpa using ex_3
  clear g1_3 ex_3
  obtain ⟨ax_4, ex_4, -, wx_4⟩ := DataW.trod_int Try.underlying22 g1_4
  obtain rfl : c4 = .int .u32 ax_4 := by simpa using ex_4
  clear g1_4 ex_4
  obtain ⟨ax_5, ex_5, -, wx_5⟩ := DataW.trod_int Try.underlying22 g1_5
  obtain rfl : c5 = .int .u32 ax_5 := by simpa using ex_5
  clear g1_5 ex_5
  exact ⟨ax_0, ax_1, ax_2, ax_3, ax_4, ax_5, wx_0, wx_1, wx_2, wx_3, wx_4, wx_5, rfl⟩

theorem walk (a0 : Int) (a1 : Int) (a2_0 : Int) (a2_1 : Int) (a2_2 : Int) (a2_3 : Int) (a2_4 : Int) (a2_5 : Int) (a2_6 : Int) (a2_7 : Int) (a2_8 : Option Addr) (len2_8 cap2_8 : Nat) (z2_8 : List Int) (a2_9 : Option Addr) (len2_9 cap2_9 : Nat) (z2_9 : List Int) (a3_0 : Int) (a3_1 : Int) (a3_2 : Int) (a3_3 : Int) (a3_4 : Int) (a3_5 : Int) (w : World) (w0 : (Lit.int .u32 a0).wf = true) (w1 : (Lit.int .u32 a1).wf = true) (w2_0 : (Lit.int .u16 a2_0).wf = true) (w2_1 : (Lit.int .u16 a2_1).wf = true) (w2_2 : (Lit.int .u32 a2_2).wf = true) (w2_3 : (Lit.int .u32 a2_3).wf = true) (w2_4 : (Lit.int .u8 a2_4).wf = true) (w2_5 : (Lit.int .u8 a2_5).wf = true) (w2_6 : (Lit.int .u16 a2_6).wf = true) (w2_7 : (Lit.int .u16 a2_7).wf = true) (w2_8 : IsRow .u8 w a2_8 len2_8 cap2_8 z2_8) (w2_9 : IsRow .u8 w a2_9 len2_9 cap2_9 z2_9) (w3_0 : (Lit.int .u32 a3_0).wf = true) (w3_1 : (Lit.int .u32 a3_1).wf = true) (w3_2 : (Lit.int .u16 a3_2).wf = true) (w3_3 : (Lit.int .u16 a3_3).wf = true) (w3_4 : (Lit.int .u32 a3_4).wf = true) (w3_5 : (Lit.int .u32 a3_5).wf = true) :
    Calls Try.prog 3 #[.int .u32 a0, .int .u32 a1, .agg #[.int .u16 a2_0, .int .u16 a2_1, .int .u32 a2_2, .int .u32 a2_3, .int .u8 a2_4, .int .u8 a2_5, .int .u16 a2_6, .int .u16 a2_7, .slice a2_8 len2_8 cap2_8, .slice a2_9 len2_9 cap2_9], .agg #[.int .u32 a3_0, .int .u32 a3_1, .int .u16 a3_2, .int .u16 a3_3, .int .u32 a3_4, .int .u32 a3_5]] w fun e w' => e = .returned (.bool true) ∧ Below w.heap.size w w' := by
  exact SpliceBytes_walk a0 a1 a2_0 a2_1 a2_2 a2_3 a2_4 a2_5 a2_6 a2_7 a2_8 len2_8 cap2_8 z2_8 a2_9 len2_9 cap2_9 z2_9 a3_0 a3_1 a3_2 a3_3 a3_4 a3_5 w w0 w1 w2_0 w2_1 w2_2 w2_3 w2_4 w2_5 w2_6 w2_7 w2_8 w2_9 w3_0 w3_1 w3_2 w3_3 w3_4 w3_5

set_option maxRecDepth 100000 in
theorem lifted (os : Os) (started : os.Started) (H : Type) (enc : TypeId × Value → H) :
    ReturnsInHanded {} Try.checked os 3 .any (Rows.spliceBytesSpec.pre6 enc Try.prog Try.f3 Rows.spliceBytesRow.domain false) (Rows.spliceBytesSpec.post enc Try.prog Try.f3 false true false false) := by
  refine returnsInHanded_of_change (C := Try.checked) own started (by kernel_rfl) Try.func3
    (ChangeSpec.witness6 (enc := enc) (C := Try.checked) false ⟨#[], #[.int .u32 0, .int .u32 0, .agg #[.int .u16 0, .int .u16 0, .int .u32 0, .int .u32 0, .int .u8 0, .int .u8 0, .int .u16 0, .int .u16 0, .slice none 0 0, .slice none 0 0], .agg #[.int .u32 0, .int .u32 0, .int .u16 0, .int .u16 0, .int .u32 0, .int .u32 0]], []⟩ 8 (by kernel_rfl) (by kernel_rfl) (by kernel_rfl) (by kernel_rfl)) ?_
  intro W base args ds gs before hval0 hW hcnd _
  have hval : ∀ (j : Nat) t v, Try.f3.params[j]? = some t → args[j]? = some v → Value.okWide Try.prog W .any base t v := hval0
  have hW' := hW
  obtain ⟨p, q, hA0, hV, rfl, hfz, hnd⟩ := hW
  have hA : DataW.TrodAll enc Try.prog W 0 (fun _ => true) true Try.f3.params.toList args.toList ds p := hA0
  rw [Try.params3] at hA hval
  obtain ⟨v0, vs0, d0, ds0, p0, q0, hargs, rfl, rfl, h0, r0⟩ := trodAll_cons hA
  obtain ⟨v1, vs1, d1, ds1, p1, q1, rfl, rfl, rfl, h1, r1⟩ := trodAll_cons r0
  obtain ⟨v2, vs2, d2, ds2, p2, q2, rfl, rfl, rfl, h2, r2⟩ := trodAll_cons r1
  obtain ⟨v3, vs3, d3, ds3, p3, q3, rfl, rfl, rfl, h3, r3⟩ := trodAll_cons r2
  obtain ⟨rfl, rfl, rfl⟩ := trodAll_nil r3
  obtain rfl : args = #[v0, v1, v2, v3] := by cases args; simp_all
  obtain ⟨rfl, rfl⟩ := trodVars_none hV
  obtain ⟨a0, rfl, rfl, rfl, w0⟩ := open_int Try.underlying22 (hval 0 22 v0 rfl rfl) h0
  obtain ⟨a1, rfl, rfl, rfl, w1⟩ := open_int Try.underlying22 (hval 1 22 v1 rfl rfl) h1
  have k2 := h2
  have lt2 : ∀ x ∈ p2, x.block < W.heap.size := by obtain ⟨m, hm⟩ := k2; exact DataW.trod_lt m _ _ _ hm
  obtain ⟨a2_0, a2_1, a2_2, a2_3, a2_4, a2_5, a2_6, a2_7, a2_8, len2_8, cap2_8, z2_8, a2_9, len2_9, cap2_9, z2_9, w2_0, w2_1, w2_2, w2_3, w2_4, w2_5, w2_6, w2_7, w2_8, w2_9, rfl⟩ := open26 (hval 2 26 v2 rfl rfl) h2
  have k3 := h3
  have lt3 : ∀ x ∈ p3, x.block < W.heap.size := by obtain ⟨m, hm⟩ := k3; exact DataW.trod_lt m _ _ _ hm
  obtain ⟨a3_0, a3_1, a3_2, a3_3, a3_4, a3_5, w3_0, w3_1, w3_2, w3_3, w3_4, w3_5, rfl⟩ := open28 (hval 3 28 v3 rfl rfl) h3
  clear hA0 hval0
  refine (walk a0 a1 a2_0 a2_1 a2_2 a2_3 a2_4 a2_5 a2_6 a2_7 a2_8 len2_8 cap2_8 z2_8 a2_9 len2_9 cap2_9 z2_9 a3_0 a3_1 a3_2 a3_3 a3_4 a3_5 W w0 w1 w2_0 w2_1 w2_2 w2_3 w2_4 w2_5 w2_6 w2_7 w2_8 w2_9 w3_0 w3_1 w3_2 w3_3 w3_4 w3_5).mono fun e W' ⟨he, bel⟩ => ?_
  subst he
  exact ⟨_, rfl, _, _, _, [], _, [], hW', trodAll_mk1 (shut_bool Try.underlying4 _), (trodAll_cons_mk (shut_int Try.underlying22 w0) (trodAll_cons_mk (shut_int Try.underlying22 w1) (trodAll_cons_mk (Below.trod laidOut (by kernel_rfl) (of_decide_eq_true (by kernel_rfl)) k2 bel lt2) (trodAll_cons_mk (Below.trod laidOut (by kernel_rfl) (of_decide_eq_true (by kernel_rfl)) k3 bel lt3) trodAll_mk0)))), rfl, bel.frame _, fun h => by cases h⟩

theorem over : Rows.spliceBytesRow.holds Try.pinned (OpenSpec.ofChange Rows.spliceBytesSpec) :=
  OpenClaim.holds_of_wide 3 Try.f3 rfl rfl rfl rfl rfl rfl rfl ⟨rfl, rfl, rfl, rfl, rfl⟩ rfl rfl rfl rfl rfl (by kernel_rfl) Try.func3 (by kernel_rfl)
    (of_decide_eq_true (by kernel_rfl)) (by unfold Func.isWrapper; first | (rw [if_pos (by decide +kernel)]; kernel_rfl) | (rw [if_neg (by decide +kernel)]; exact ⟨rfl, rfl⟩))
    (fun os started H enc _ => lifted os started H enc)

theorem proved : Rows.SpliceBytesSaid := over
#print axioms proved
end Go.Proofs.Ytlceflfmdfoeiaa.spliceBytes
