/- Proved: for every input of the given statement on ether.Group, Unicast, All and Mine (whom any frame is for, and which addresses are those of one, of several, of all) the function of the statement returns true and leaves its arguments as they were; no condition beside the form's own. -/
import Derived.Test.YteodjajjlgekcaaRows
import Derived.WalkKit
import Derived.ProofKit
import Derived.OpenShut
import Derived.ShutString
import Derived.ChangeOld
import Derived.Below
import Derived.Lib.SmallJoins
import Derived.Test.YteodjajjlgekcaaLaw04f
namespace Go.Proofs.Yteodjajjlgekcaa.etherMine
open Go.ChangeShapes Go.WideShapes Go.ChangeAt Go.RowKit
open Go.ChangeMaps (open_string shut_string)
set_option linter.unusedVariables false

theorem own : ownKnob Try.prog.godebug = none := by kernel_rfl
theorem laidOut : laidOutB Try.prog = true := by kernel_rfl

def IsRow (k : IntKind) (w : World) (a : Option Addr) (len cap : Nat) (zs : List Int) : Prop :=
  (a = none ∧ len = 0 ∧ cap = 0 ∧ zs = []) ∨
  ∃ x, a = some x ∧ len ≤ cap ∧ cap ≤ maxLen ∧ zs.length = cap ∧ (∀ i, i < zs.length → w.cell? (x.add i) = some (.int k (zs.getD i 0))) ∧ ∀ n ∈ zs, (Lit.int k n).wf = true

theorem cons_of {α : Type} {l : List α} {n : Nat} (h : l.length = n + 1) : ∃ c l1, l = c :: l1 ∧ l1.length = n := by
  cases l with
  | nil => cases h
  | cons c l => exact ⟨c, l, rfl, by simpa using h⟩
theorem cells5 : Try.prog.cellsOf 5 = 1 := by kernel_rfl
theorem cells49 : Try.prog.cellsOf 49 = 6 := by kernel_rfl
theorem cells30 : Try.prog.cellsOf 30 = 1 := by kernel_rfl
theorem cells22 : Try.prog.cellsOf 22 = 1 := by kernel_rfl
theorem cells51 : Try.prog.cellsOf 51 = 14 := by kernel_rfl
theorem okArray {P : Program} {w : World} {r : Reach} {base : Nat} {v : Value} {n : Nat} {e t : TypeId} (ht : P.underlying t = some (.array n e)) (h : Value.okWide P w r base t v) : ∃ cs, v = .agg cs ∧ cs.size = P.cellsOf t := by
  simp only [Value.okWide, ht] at h
  obtain ⟨cs, h1, h2, _⟩ := h
  exact ⟨cs, h1, h2⟩
theorem isRow_of {H : Type} {enc : TypeId × Value → H} {P : Program} {W : World} {t e : TypeId} {k : IntKind} {n : Nat} {a : Option Addr} {len cap : Nat} {y : DataW H × List MemPlace} (ht : P.underlying t = some (.slice e)) (he : P.underlying e = some (.int k)) (hc : P.cellsOf e = 1)
    (hf : DataW.trod enc P W 0 (fun _ => true) true n t [.slice a len cap] = some y) : ∃ zs, IsRow k W a len cap zs := by
  rcases open_ints ht he hc hf with ⟨hcs, _⟩ | ⟨x, l, c, zs, hcs, _, hl, hm, hz, _, hcell, hwz⟩
  · simp at hcs
    obtain ⟨rfl, rfl, rfl⟩ := hcs
    exact ⟨[], .inl ⟨rfl, rfl, rfl, rfl⟩⟩
  · simp at hcs
    obtain ⟨rfl, rfl, rfl⟩ := hcs
    exact ⟨zs, .inr ⟨_, rfl, hl, hm, by simpa using hz, hcell, hwz⟩⟩
theorem list14 {α : Type} (l : List α) (h : l.length = 14) : ∃ c0 c1 c2 c3 c4 c5 c6 c7 c8 c9 c10 c11 c12 c13, l = [c0, c1, c2, c3, c4, c5, c6, c7, c8, c9, c10, c11, c12, c13] := by
  obtain ⟨c0, l0, e0, h0⟩ := cons_of h
  obtain ⟨c1, l1, e1, h1⟩ := cons_of h0
  obtain ⟨c2, l2, e2, h2⟩ := cons_of h1
  obtain ⟨c3, l3, e3, h3⟩ := cons_of h2
  obtain ⟨c4, l4, e4, h4⟩ := cons_of h3
  obtain ⟨c5, l5, e5, h5⟩ := cons_of h4
  obtain ⟨c6, l6, e6, h6⟩ := cons_of h5
  obtain ⟨c7, l7, e7, h7⟩ := cons_of h6
  obtain ⟨c8, l8, e8, h8⟩ := cons_of h7
  obtain ⟨c9, l9, e9, h9⟩ := cons_of h8
  obtain ⟨c10, l10, e10, h10⟩ := cons_of h9
  obtain ⟨c11, l11, e11, h11⟩ := cons_of h10
  obtain ⟨c12, l12, e12, h12⟩ := cons_of h11
  obtain ⟨c13, l13, e13, h13⟩ := cons_of h12
  have e14 := List.eq_nil_of_length_eq_zero h13
  subst e14 e13 e12 e11 e10 e9 e8 e7 e6 e5 e4 e3 e2 e1 e0
  exact ⟨c0, c1, c2, c3, c4, c5, c6, c7, c8, c9, c10, c11, c12, c13, rfl⟩
set_option maxRecDepth 100000 in
theorem open51 {H : Type} {enc : TypeId × Value → H} {W : World} {base : Nat} {v : Value} {d : DataW H} {p : List MemPlace} (hv : Value.okWide Try.prog W .any base 51 v) (h : DataW.Trod enc Try.prog W 0 (fun _ => true) true 51 v d p) :
    ∃ (ax_0_0 : Int) (ax_0_1 : Int) (ax_0_2 : Int) (ax_0_3 : Int) (ax_0_4 : Int) (ax_0_5 : Int) (ax_1_0 : Int) (ax_1_1 : Int) (ax_1_2 : Int) (ax_1_3 : Int) (ax_1_4 : Int) (ax_1_5 : Int) (ax_2 : Int) (ax_3 : Option Addr) (lenx_3 capx_3 : Nat) (zx_3 : List Int), (Lit.int .u8 ax_0_0).wf = true ∧ (Lit.int .u8 ax_0_1).wf = true ∧ (Lit.int .u8 ax_0_2).wf = true ∧ (Lit.int .u8 ax_0_3).wf = true ∧ (Lit.int .u8 ax_0_4).wf = true ∧ (Lit.int .u8 ax_0_5).wf = true ∧ (Lit.int .u8 ax_1_0).wf = true ∧ (Lit.int .u8 ax_1_1).wf = true ∧ (Lit.int .u8 ax_1_2).wf = true ∧ (Lit.int .u8 ax_1_3).wf = true ∧ (Lit.int .u8 ax_1_4).wf = true ∧ (Lit.int .u8 ax_1_5).wf = true ∧ (Lit.int .u16 ax_2).wf = true ∧ IsRow .u8 W ax_3 lenx_3 capx_3 zx_3 ∧ v = .agg #[.int .u8 ax_0_0, .int .u8 ax_0_1, .int .u8 ax_0_2, .int .u8 ax_0_3, .int .u8 ax_0_4, .int .u8 ax_0_5, .int .u8 ax_1_0, .int .u8 ax_1_1, .int .u8 ax_1_2, .int .u8 ax_1_3, .int .u8 ax_1_4, .int .u8 ax_1_5, .int .u16 ax_2, .slice ax_3 lenx_3 capx_3] := by
  obtain ⟨cs, rfl, hsz⟩ := okWide_struct Try.underlying51 hv
  rw [cells51] at hsz
  obtain ⟨l⟩ := cs
  have hsz2 : l.length = 14 := hsz
  obtain ⟨c0, c1, c2, c3, c4, c5, c6, c7, c8, c9, c10, c11, c12, c13, rfl⟩ := list14 l hsz2
  obtain ⟨fuel, hf⟩ := h
  have hf : DataW.trod enc Try.prog W 0 (fun _ => true) true fuel 51 [c0, c1, c2, c3, c4, c5, c6, c7, c8, c9, c10, c11, c12, c13] = some (d, p) := hf
  obtain ⟨xs0, n0, -, -, -, hl0, hx0⟩ := DataW.trod_struct Try.underlying51 hf
  obtain ⟨y0_0, hy0_0⟩ : ∃ y, xs0[0]? = some y := ⟨_, List.getElem?_eq_getElem (by rw [hl0]; decide)⟩
  have g0_0 : DataW.trod enc Try.prog W 0 (fun _ => true) true n0 49 [c0, c1, c2, c3, c4, c5] = some y0_0 := by
    have g0 := hx0 0 _ rfl
    rw [hy0_0] at g0
    simpa [Value.cells, cells49] using g0
  obtain ⟨y0_1, hy0_1⟩ : ∃ y, xs0[1]? = some y := ⟨_, List.getElem?_eq_getElem (by rw [hl0]; decide)⟩
  have g0_1 : DataW.trod enc Try.prog W 0 (fun _ => true) true n0 49 [c6, c7, c8, c9, c10, c11] = some y0_1 := by
    have g0 := hx0 1 _ rfl
    rw [hy0_1] at g0
    simpa [Value.cells, cells49] using g0
  obtain ⟨y0_2, hy0_2⟩ : ∃ y, xs0[2]? = some y := ⟨_, List.getElem?_eq_getElem (by rw [hl0]; decide)⟩
  have g0_2 : DataW.trod enc Try.prog W 0 (fun _ => true) true n0 30 [c12] = some y0_2 := by
    have g0 := hx0 2 _ rfl
    rw [hy0_2] at g0
    simpa [Value.cells, cells30] using g0
  obtain ⟨y0_3, hy0_3⟩ : ∃ y, xs0[3]? = some y := ⟨_, List.getElem?_eq_getElem (by rw [hl0]; decide)⟩
  have g0_3 : DataW.trod enc Try.prog W 0 (fun _ => true) true n0 22 [c13] = some y0_3 := by
    have g0 := hx0 3 _ rfl
    rw [hy0_3] at g0
    simpa [Value.cells, cells22] using g0
  clear hf hx0
  obtain ⟨xs1, n1, -, -, -, hl1, hx1⟩ := DataW.trod_array Try.underlying49 g0_0
  obtain ⟨y1_0, hy1_0⟩ : ∃ y, xs1[0]? = some y := ⟨_, List.getElem?_eq_getElem (by rw [hl1]; decide)⟩
  have g1_0 : DataW.trod enc Try.prog W 0 (fun _ => true) true n1 5 [c0] = some y1_0 := by
    have g0 := hx1 0 (by decide)
    rw [hy1_0] at g0
    simpa [Value.cells, cells5] using g0
  obtain ⟨y1_1, hy1_1⟩ : ∃ y, xs1[1]? = some y := ⟨_, List.getElem?_eq_getElem (by rw [hl1]; decide)⟩
  have g1_1 : DataW.trod enc Try.prog W 0 (fun _ => true) true n1 5 [c1] = some y1_1 := by
    have g0 := hx1 1 (by decide)
    rw [hy1_1] at g0
    simpa [Value.cells, cells5] using g0
  obtain ⟨y1_2, hy1_2⟩ : ∃ y, xs1[2]? = some y := ⟨_, List.getElem?_eq_getElem (by rw [hl1]; decide)⟩
  have g1_2 : DataW.trod enc Try.prog W 0 (fun _ => true) true n1 5 [c2] = some y1_2 := by
    have g0 := hx1 2 (by decide)
    rw [hy1_2] at g0
    simpa [Value.cells, cells5] using g0
  obtain ⟨y1_3, hy1_3⟩ : ∃ y, xs1[3]? = some y := ⟨_, List.getElem?_eq_getElem (by rw [hl1]; decide)⟩
  have g1_3 : DataW.trod enc Try.prog W 0 (fun _ => true) true n1 5 [c3] = some y1_3 := by
    have g0 := hx1 3 (by decide)
    rw [hy1_3] at g0
    simpa [Value.cells, cells5] using g0
  obtain ⟨y1_4, hy1_4⟩ : ∃ y, xs1[4]? = some y := ⟨_, List.getElem?_eq_getElem (by rw [hl1]; decide)⟩
  have g1_4 : DataW.trod enc Try.prog W 0 (fun _ => true) true n1 5 [c4] = some y1_4 := by
    have g0 := hx1 4 (by decide)
    rw [hy1_4] at g0
    simpa [Value.cells, cells5] using g0
  obtain ⟨y1_5, hy1_5⟩ : ∃ y, xs1[5]? = some y := ⟨_, List.getElem?_eq_getElem (by rw [hl1]; decide)⟩
  have g1_5 : DataW.trod enc Try.prog W 0 (fun _ => true) true n1 5 [c5] = some y1_5 := by
    have g0 := hx1 5 (by decide)
    rw [hy1_5] at g0
    simpa [Value.cells, cells5] using g0
  clear g0_0 hx1
  obtain ⟨ax_0_0, ex_0_0, -, wx_0_0⟩ := DataW.trod_int Try.underlying5 g1_0
  obtain rfl : c0 = .int .u8 ax_0_0 := by simpa using ex_0_0
  clear g1_0 ex_0_0
  obtain ⟨ax_0_1, ex_0_1, -, wx_0_1⟩ := DataW.trod_int Try.underlying5 g1_1
  obtain rfl : c1 = .int .u8 ax_0_1 := by simpa using ex_0_1
  clear g1_1 ex_0_1
  obtain ⟨ax_0_2, ex_0_2, -, wx_0_2⟩ := DataW.trod_int Try.underlying5 g1_2
  obtain rfl : c2 = .int .u8 ax_0_2 := by simpa using ex_0_2
  clear g1_2 ex_0_2
  obtain ⟨ax_0_3, ex_0_3, -, wx_0_3⟩ := DataW.trod_int Try.underlying5 g1_3
  obtain rfl : c3 = .int .u8 ax_0_3 := by simpa using ex_0_3
  clear g1_3 ex_0_3
  obtain ⟨ax_0_4, ex_0_4, -, wx_0_4⟩ := DataW.trod_int Try.underlying5 g1_4
  obtain rfl : c4 = .int .u8 ax_0_4 := by simpa using ex_0_4
  clear g1_4 ex_0_4
  obtain ⟨ax_0_5, ex_0_5, -, wx_0_5⟩ := DataW.trod_int Try.underlying5 g1_5
  obtain rfl : c5 = .int .u8 ax_0_5 := by simpa using ex_0_5
  clear g1_5 ex_0_5
  obtain ⟨xs2, n2, -, -, -, hl2, hx2⟩ := DataW.trod_array Try.underlying49 g0_1
  obtain ⟨y2_0, hy2_0⟩ : ∃ y, xs2[0]? = some y := ⟨_, List.getElem?_eq_getElem (by rw [hl2]; decide)⟩
  have g2_0 : DataW.trod enc Try.prog W 0 (fun _ => true) true n2 5 [c6] = some y2_0 := by
    have g0 := hx2 0 (by decide)
    rw [hy2_0] at g0
    simpa [Value.cells, cells5] using g0
  obtain ⟨y2_1, hy2_1⟩ : ∃ y, xs2[1]? = some y := ⟨_, List.getElem?_eq_getElem (by rw [hl2]; decide)⟩
  have g2_1 : DataW.trod enc Try.prog W 0 (fun _ => true) true n2 5 [c7] = some y2_1 := by
    have g0 := hx2 1 (by decide)
    rw [hy2_1] at g0
    simpa [Value.cells, cells5] using g0
  obtain ⟨y2_2, hy2_2⟩ : ∃ y, xs2[2]? = some y := ⟨_, List.getElem?_eq_getElem (by rw [hl2]; decide)⟩
  have g2_2 : DataW.trod enc Try.prog W 0 (fun _ => true) true n2 5 [c8] = some y2_2 := by
    have g0 := hx2 2 (by decide)
    rw [hy2_2] at g0
    simpa [Value.cells, cells5] using g0
  obtain ⟨y2_3, hy2_3⟩ : ∃ y, xs2[3]? = some y := ⟨_, List.getElem?_eq_getElem (by rw [hl2]; decide)⟩
  have g2_3 : DataW.trod enc Try.prog W 0 (fun _ => true) true n2 5 [c9] = some y2_3 := by
    have g0 := hx2 3 (by decide)
    rw [hy2_3] at g0
    simpa [Value.cells, cells5] using g0
  obtain ⟨y2_4, hy2_4⟩ : ∃ y, xs2[4]? = some y := ⟨_, List.getElem?_eq_getElem (by rw [hl2]; decide)⟩
  have g2_4 : DataW.trod enc Try.prog W 0 (fun _ => true) true n2 5 [c10] = some y2_4 := by
    have g0 := hx2 4 (by decide)
    rw [hy2_4] at g0
    simpa [Value.cells, cells5] using g0
  obtain ⟨y2_5, hy2_5⟩ : ∃ y, xs2[5]? = some y := ⟨_, List.getElem?_eq_getElem (by rw [hl2]; decide)⟩
  have g2_5 : DataW.trod enc Try.prog W 0 (fun _ => true) true n2 5 [c11] = some y2_5 := by
    have g0 := hx2 5 (by decide)
    rw [hy2_5] at g0
    simpa [Value.cells, cells5] using g0
  clear g0_1 hx2
  obtain ⟨ax_1_0, ex_1_0, -, wx_1_0⟩ := DataW.trod_int Try.underlying5 g2_0
  obtain rfl : c6 = .int .u8 ax_1_0 := by simpa using ex_1_0
  clear g2_0 ex_1_0
  obtain ⟨ax_1_1, ex_1_1, -, wx_1_1⟩ := DataW.trod_int Try.underlying5 g2_1
  obtain rfl : c7 = .int .u8 ax_1_1 := by simpa using ex_1_1
  clear g2_1 ex_1_1
  obtain ⟨ax_1_2, ex_1_2, -, wx_1_2⟩ := DataW.trod_int Try.underlying5 g2_2
  obtain rfl : c8 = .int .u8 ax_1_2 := by simpa using ex_1_2
  clear g2_2 ex_1_2
  obtain ⟨ax_1_3, ex_1_3, -, wx_1_3⟩ := DataW.trod_int Try.underlying5 g2_3
  obtain rfl : c9 = .int .u8 ax_1_3 := by simpa using ex_1_3
  clear g2_3 ex_1_3
  obtain ⟨ax_1_4, ex_1_4, -, wx_1_4⟩ := DataW.trod_int Try.underlying5 g2_4
  obtain rfl : c10 = .int .u8 ax_1_4 := by simpa using ex_1_4
  clear g2_4 ex_1_4
  obtain ⟨ax_1_5, ex_1_5, -, wx_1_5⟩ := DataW.trod_int Try.underlying5 g2_5
  obtain rfl : c11 = .int .u8 ax_1_5 := by simpa using ex_1_5
  clear g2_5 ex_1_5
  obtain ⟨ax_2, ex_2, -, wx_2⟩ := DataW.trod_int Try.underlying30 g0_2
  obtain rfl : c12 = .int .u16 ax_2 := by simpa using ex_2
  clear g0_2 ex_2
  obtain ⟨ax_3, lenx_3, capx_3, ex_3⟩ := Go.Joins.slice_form Try.underlying22 g0_3
  obtain rfl : c13 = .slice ax_3 lenx_3 capx_3 := by simpa using ex_3
  obtain ⟨zx_3, wx_3⟩ := isRow_of Try.underlying22 Try.underlying5 (by kernel_rfl) g0_3
  clear g0_3 ex_3
  exact ⟨ax_0_0, ax_0_1, ax_0_2, ax_0_3, ax_0_4, ax_0_5, ax_1_0, ax_1_1, ax_1_2, ax_1_3, ax_1_4, ax_1_5, ax_2, ax_3, lenx_3, capx_3, zx_3, wx_0_0, wx_0_1, wx_0_2, wx_0_3, wx_0_4, wx_0_5, wx_1_0, wx_1_1, wx_1_2, wx_1_3, wx_1_4, wx_1_5, wx_2, wx_3, rfl⟩
theorem list6 {α : Type} (l : List α) (h : l.length = 6) : ∃ c0 c1 c2 c3 c4 c5, l = [c0, c1, c2, c3, c4, c5] := by
  obtain ⟨c0, l0, e0, h0⟩ := cons_of h
  obtain ⟨c1, l1, e1, h1⟩ := cons_of h0
  obtain ⟨c2, l2, e2, h2⟩ := cons_of h1
  obtain ⟨c3, l3, e3, h3⟩ := cons_of h2
  obtain ⟨c4, l4, e4, h4⟩ := cons_of h3
  obtain ⟨c5, l5, e5, h5⟩ := cons_of h4
  have e6 := List.eq_nil_of_length_eq_zero h5
  subst e6 e5 e4 e3 e2 e1 e0
  exact ⟨c0, c1, c2, c3, c4, c5, rfl⟩
set_option maxRecDepth 100000 in
theorem open49 {H : Type} {enc : TypeId × Value → H} {W : World} {base : Nat} {v : Value} {d : DataW H} {p : List MemPlace} (hv : Value.okWide Try.prog W .any base 49 v) (h : DataW.Trod enc Try.prog W 0 (fun _ => true) true 49 v d p) :
    ∃ (ax_0 : Int) (ax_1 : Int) (ax_2 : Int) (ax_3 : Int) (ax_4 : Int) (ax_5 : Int), (Lit.int .u8 ax_0).wf = true ∧ (Lit.int .u8 ax_1).wf = true ∧ (Lit.int .u8 ax_2).wf = true ∧ (Lit.int .u8 ax_3).wf = true ∧ (Lit.int .u8 ax_4).wf = true ∧ (Lit.int .u8 ax_5).wf = true ∧ v = .agg #[.int .u8 ax_0, .int .u8 ax_1, .int .u8 ax_2, .int .u8 ax_3, .int .u8 ax_4, .int .u8 ax_5] := by
  obtain ⟨cs, rfl, hsz⟩ := okArray Try.underlying49 hv
  rw [cells49] at hsz
  obtain ⟨l⟩ := cs
  have hsz2 : l.length = 6 := hsz
  obtain ⟨c0, c1, c2, c3, c4, c5, rfl⟩ := list6 l hsz2
  obtain ⟨fuel, hf⟩ := h
  have hf : DataW.trod enc Try.prog W 0 (fun _ => true) true fuel 49 [c0, c1, c2, c3, c4, c5] = some (d, p) := hf
  obtain ⟨xs3, n3, -, -, -, hl3, hx3⟩ := DataW.trod_array Try.underlying49 hf
  obtain ⟨y3_0, hy3_0⟩ : ∃ y, xs3[0]? = some y := ⟨_, List.getElem?_eq_getElem (by rw [hl3]; decide)⟩
  have g3_0 : DataW.trod enc Try.prog W 0 (fun _ => true) true n3 5 [c0] = some y3_0 := by
    have g0 := hx3 0 (by decide)
    rw [hy3_0] at g0
    simpa [Value.cells, cells5] using g0
  obtain ⟨y3_1, hy3_1⟩ : ∃ y, xs3[1]? = some y := ⟨_, List.getElem?_eq_getElem (by rw [hl3]; decide)⟩
  have g3_1 : DataW.trod enc Try.prog W 0 (fun _ => true) true n3 5 [c1] = some y3_1 := by
    have g0 := hx3 1 (by decide)
    rw [hy3_1] at g0
    simpa [Value.cells, cells5] using g0
  obtain ⟨y3_2, hy3_2⟩ : ∃ y, xs3[2]? = some y := ⟨_, List.getElem?_eq_getElem (by rw [hl3]; decide)⟩
  have g3_2 : DataW.trod enc Try.prog W 0 (fun _ => true) true n3 5 [c2] = some y3_2 := by
    have g0 := hx3 2 (by decide)
    rw [hy3_2] at g0
    simpa [Value.cells, cells5] using g0
  obtain ⟨y3_3, hy3_3⟩ : ∃ y, xs3[3]? = some y := ⟨_, List.getElem?_eq_getElem (by rw [hl3]; decide)⟩
  have g3_3 : DataW.trod enc Try.prog W 0 (fun _ => true) true n3 5 [c3] = some y3_3 := by
    have g0 := hx3 3 (by decide)
    rw [hy3_3] at g0
    simpa [Value.cells, cells5] using g0
  obtain ⟨y3_4, hy3_4⟩ : ∃ y, xs3[4]? = some y := ⟨_, List.getElem?_eq_getElem (by rw [hl3]; decide)⟩
  have g3_4 : DataW.trod enc Try.prog W 0 (fun _ => true) true n3 5 [c4] = some y3_4 := by
    have g0 := hx3 4 (by decide)
    rw [hy3_4] at g0
    simpa [Value.cells, cells5] using g0
  obtain ⟨y3_5, hy3_5⟩ : ∃ y, xs3[5]? = some y := ⟨_, List.getElem?_eq_getElem (by rw [hl3]; decide)⟩
  have g3_5 : DataW.trod enc Try.prog W 0 (fun _ => true) true n3 5 [c5] = some y3_5 := by
    have g0 := hx3 5 (by decide)
    rw [hy3_5] at g0
    simpa [Value.cells, cells5] using g0
  clear hf hx3
  obtain ⟨ax_0, ex_0, -, wx_0⟩ := DataW.trod_int Try.underlying5 g3_0
  obtain rfl : c0 = .int .u8 ax_0 := by simpa using ex_0
  clear g3_0 ex_0
  obtain ⟨ax_1, ex_1, -, wx_1⟩ := DataW.trod_int Try.underlying5 g3_1
  obtain rfl : c1 = .int .u8 ax_1 := by simpa using ex_1
  clear g3_1 ex_1
  obtain ⟨ax_2, ex_2, -, wx_2⟩ := DataW.trod_int Try.underlying5 g3_2
  obtain rfl : c2 = .int .u8 ax_2 := by simpa using ex_2
  clear g3_2 ex_2
  obtain ⟨ax_3, ex_3, -, wx_3⟩ := DataW.trod_int Try.underlying5 g3_3
  obtain rfl : c3 = .int .u8 ax_3 := by simpa using ex_3
  clear g3_3 ex_3
  obtain ⟨ax_4, ex_4, -, wx_4⟩ := DataW.trod_int Try.underlying5 g3_4
  obtain rfl : c4 = .int .u8 ax_4 := by simpa using ex_4
  clear g3_4 ex_4
  obtain ⟨ax_5, ex_5, -, wx_5⟩ := DataW.trod_int Try.underlying5 g3_5
  obtain rfl : c5 = .int .u8 ax_5 := by simpa using ex_5
  clear g3_5 ex_5
  exact ⟨ax_0, ax_1, ax_2, ax_3, ax_4, ax_5, wx_0, wx_1, wx_2, wx_3, wx_4, wx_5, rfl⟩

theorem walk (a0_0_0 : Int) (a0_0_1 : Int) (a0_0_2 : Int) (a0_0_3 : Int) (a0_0_4 : Int) (a0_0_5 : Int) (a0_1_0 : Int) (a0_1_1 : Int) (a0_1_2 : Int) (a0_1_3 : Int) (a0_1_4 : Int) (a0_1_5 : Int) (a0_2 : Int) (a0_3 : Option Addr) (len0_3 cap0_3 : Nat) (z0_3 : List Int) (a1_0 : Int) (a1_1 : Int) (a1_2 : Int) (a1_3 : Int) (a1_4 : Int) (a1_5 : Int) (w : World) (w0_0_0 : (Lit.int .u8 a0_0_0).wf = true) (w0_0_1 : (Lit.int .u8 a0_0_1).wf = true) (w0_0_2 : (Lit.int .u8 a0_0_2).wf = true) (w0_0_3 : (Lit.int .u8 a0_0_3).wf = true) (w0_0_4 : (Lit.int .u8 a0_0_4).wf = true) (w0_0_5 : (Lit.int .u8 a0_0_5).wf = true) (w0_1_0 : (Lit.int .u8 a0_1_0).wf = true) (w0_1_1 : (Lit.int .u8 a0_1_1).wf = true) (w0_1_2 : (Lit.int .u8 a0_1_2).wf = true) (w0_1_3 : (Lit.int .u8 a0_1_3).wf = true) (w0_1_4 : (Lit.int .u8 a0_1_4).wf = true) (w0_1_5 : (Lit.int .u8 a0_1_5).wf = true) (w0_2 : (Lit.int .u16 a0_2).wf = true) (w0_3 : IsRow .u8 w a0_3 len0_3 cap0_3 z0_3) (w1_0 : (Lit.int .u8 a1_0).wf = true) (w1_1 : (Lit.int .u8 a1_1).wf = true) (w1_2 : (Lit.int .u8 a1_2).wf = true) (w1_3 : (Lit.int .u8 a1_3).wf = true) (w1_4 : (Lit.int .u8 a1_4).wf = true) (w1_5 : (Lit.int .u8 a1_5).wf = true) :
    Calls Try.prog 6 #[.agg #[.int .u8 a0_0_0, .int .u8 a0_0_1, .int .u8 a0_0_2, .int .u8 a0_0_3, .int .u8 a0_0_4, .int .u8 a0_0_5, .int .u8 a0_1_0, .int .u8 a0_1_1, .int .u8 a0_1_2, .int .u8 a0_1_3, .int .u8 a0_1_4, .int .u8 a0_1_5, .int .u16 a0_2, .slice a0_3 len0_3 cap0_3], .agg #[.int .u8 a1_0, .int .u8 a1_1, .int .u8 a1_2, .int .u8 a1_3, .int .u8 a1_4, .int .u8 a1_5]] w fun e w' => e = .returned (.bool true) ∧ Below w.heap.size w w' := by
  exact EtherMine_walk a0_0_0 a0_0_1 a0_0_2 a0_0_3 a0_0_4 a0_0_5 a0_1_0 a0_1_1 a0_1_2 a0_1_3 a0_1_4 a0_1_5 a0_2 a0_3 len0_3 cap0_3 z0_3 a1_0 a1_1 a1_2 a1_3 a1_4 a1_5 w w0_0_0 w0_0_1 w0_0_2 w0_0_3 w0_0_4 w0_0_5 w0_1_0 w0_1_1 w0_1_2 w0_1_3 w0_1_4 w0_1_5 w0_2 w0_3 w1_0 w1_1 w1_2 w1_3 w1_4 w1_5

set_option maxRecDepth 100000 in
theorem lifted (os : Os) (started : os.Started) (H : Type) (enc : TypeId × Value → H) :
    ReturnsInHanded {} Try.checked os 6 .any (Rows.etherMineSpec.pre6 enc Try.prog Try.f6 Rows.etherMineRow.domain false) (Rows.etherMineSpec.post enc Try.prog Try.f6 false true false false) := by
  refine returnsInHanded_of_change (C := Try.checked) own started (by kernel_rfl) Try.func6
    (ChangeSpec.witness6 (enc := enc) (C := Try.checked) false ⟨#[], #[.agg #[.int .u8 0, .int .u8 0, .int .u8 0, .int .u8 0, .int .u8 0, .int .u8 0, .int .u8 0, .int .u8 0, .int .u8 0, .int .u8 0, .int .u8 0, .int .u8 0, .int .u16 0, .slice none 0 0], .agg #[.int .u8 0, .int .u8 0, .int .u8 0, .int .u8 0, .int .u8 0, .int .u8 0]], []⟩ 8 (by kernel_rfl) (by kernel_rfl) (by kernel_rfl) (by kernel_rfl)) ?_
  intro W base args ds gs before hval0 hW hcnd _
  have hval : ∀ (j : Nat) t v, Try.f6.params[j]? = some t → args[j]? = some v → Value.okWide Try.prog W .any base t v := hval0
  have hW' := hW
  obtain ⟨p, q, hA0, hV, rfl, hfz, hnd⟩ := hW
  have hA : DataW.TrodAll enc Try.prog W 0 (fun _ => true) true Try.f6.params.toList args.toList ds p := hA0
  rw [Try.params6] at hA hval
  obtain ⟨v0, vs0, d0, ds0, p0, q0, hargs, rfl, rfl, h0, r0⟩ := trodAll_cons hA
  obtain ⟨v1, vs1, d1, ds1, p1, q1, rfl, rfl, rfl, h1, r1⟩ := trodAll_cons r0
  obtain ⟨rfl, rfl, rfl⟩ := trodAll_nil r1
  obtain rfl : args = #[v0, v1] := by cases args; simp_all
  obtain ⟨rfl, rfl⟩ := trodVars_none hV
  have k0 := h0
  have lt0 : ∀ x ∈ p0, x.block < W.heap.size := by obtain ⟨m, hm⟩ := k0; exact DataW.trod_lt m _ _ _ hm
  obtain ⟨a0_0_0, a0_0_1, a0_0_2, a0_0_3, a0_0_4, a0_0_5, a0_1_0, a0_1_1, a0_1_2, a0_1_3, a0_1_4, a0_1_5, a0_2, a0_3, len0_3, cap0_3, z0_3, w0_0_0, w0_0_1, w0_0_2, w0_0_3, w0_0_4, w0_0_5, w0_1_0, w0_1_1, w0_1_2, w0_1_3, w0_1_4, w0_1_5, w0_2, w0_3, rfl⟩ := open51 (hval 0 51 v0 rfl rfl) h0
  have k1 := h1
  have lt1 : ∀ x ∈ p1, x.block < W.heap.size := by obtain ⟨m, hm⟩ := k1; exact DataW.trod_lt m _ _ _ hm
  obtain ⟨a1_0, a1_1, a1_2, a1_3, a1_4, a1_5, w1_0, w1_1, w1_2, w1_3, w1_4, w1_5, rfl⟩ := open49 (hval 1 49 v1 rfl rfl) h1
  clear hA0 hval0
  refine (walk a0_0_0 a0_0_1 a0_0_2 a0_0_3 a0_0_4 a0_0_5 a0_1_0 a0_1_1 a0_1_2 a0_1_3 a0_1_4 a0_1_5 a0_2 a0_3 len0_3 cap0_3 z0_3 a1_0 a1_1 a1_2 a1_3 a1_4 a1_5 W w0_0_0 w0_0_1 w0_0_2 w0_0_3 w0_0_4 w0_0_5 w0_1_0 w0_1_1 w0_1_2 w0_1_3 w0_1_4 w0_1_5 w0_2 w0_3 w1_0 w1_1 w1_2 w1_3 w1_4 w1_5).mono fun e W' ⟨he, bel⟩ => ?_
  subst he
  exact ⟨_, rfl, _, _, _, [], _, [], hW', trodAll_mk1 (shut_bool Try.underlying4 _), (trodAll_cons_mk (Below.trod laidOut (by kernel_rfl) (of_decide_eq_true (by kernel_rfl)) k0 bel lt0) (trodAll_cons_mk (Below.trod laidOut (by kernel_rfl) (of_decide_eq_true (by kernel_rfl)) k1 bel lt1) trodAll_mk0)), rfl, bel.frame _, fun h => by cases h⟩

theorem over : Rows.etherMineRow.holds Try.pinned (OpenSpec.ofChange Rows.etherMineSpec) :=
  OpenClaim.holds_of_wide 6 Try.f6 rfl rfl rfl rfl rfl rfl rfl ⟨rfl, rfl, rfl, rfl, rfl⟩ rfl rfl rfl rfl rfl (by kernel_rfl) Try.func6 (by kernel_rfl)
    (of_decide_eq_true (by kernel_rfl)) (by unfold Func.isWrapper; first | (rw [if_pos (by decide +kernel)]; kernel_rfl) | (rw [if_neg (by decide +kernel)]; exact ⟨rfl, rfl⟩))
    (fun os started H enc _ => lifted os started H enc)


theorem proved : Rows.EtherMineSaid := over
#print axioms proved
end Go.Proofs.Yteodjajjlgekcaa.etherMine
