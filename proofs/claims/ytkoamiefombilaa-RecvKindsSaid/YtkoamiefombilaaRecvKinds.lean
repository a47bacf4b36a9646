/- Proved: for every input of the given statement on recv.Kind and the three functions Must (what any thing is, and that it is itself) the function of the statement returns true and leaves its arguments as they were; no condition beside the form's own. -/
import Derived.Test.YtkoamiefombilaaRows
import Derived.WalkKit
import Derived.ProofKit
import Derived.OpenShut
import Derived.ShutString
import Derived.ChangeOld
import Derived.Below
import Derived.Lib.SmallJoins
import Derived.Test.YtkoamiefombilaaLaw26
namespace Go.Proofs.Ytkoamiefombilaa.recvKinds
open Go.ChangeShapes Go.WideShapes Go.ChangeAt Go.RowKit
open Go.ChangeMaps (open_string shut_string)
set_option linter.unusedVariables false

theorem own : ownKnob Try.prog.godebug = none := by kernel_rfl
theorem laidOut : laidOutB Try.prog = true := by kernel_rfl

def IsRow (k : IntKind) (w : World) (a : Option Addr) (len cap : Nat) (zs : List Int) : Prop :=
  (a = none ∧ len = 0 ∧ cap = 0 ∧ zs = []) ∨
  ∃ x, a = some x ∧ len ≤ cap ∧ cap ≤ maxLen ∧ zs.length = cap ∧ (∀ i, i < zs.length → w.cell? (x.add i) = some (.int k (zs.getD i 0))) ∧ ∀ n ∈ zs, (Lit.int k n).wf = true

theorem cons_of {α : Type} {l : List α} {n : Nat} (h : l.length = n + 1) : ∃ c l1, l = c :: l1 ∧ l1.length = n := by
  cases l with
  | nil => cases h
  | cons c l => exact ⟨c, l, rfl, by simpa using h⟩
theorem cells5 : Try.prog.cellsOf 5 = 1 := by kernel_rfl
theorem cells22 : Try.prog.cellsOf 22 = 1 := by kernel_rfl
theorem cells23 : Try.prog.cellsOf 23 = 1 := by kernel_rfl
theorem cells25 : Try.prog.cellsOf 25 = 4 := by kernel_rfl
theorem cells27 : Try.prog.cellsOf 27 = 1 := by kernel_rfl
theorem cells4 : Try.prog.cellsOf 4 = 1 := by kernel_rfl
theorem cells53 : Try.prog.cellsOf 53 = 4 := by kernel_rfl
theorem cells59 : Try.prog.cellsOf 59 = 10 := by kernel_rfl
theorem cells66 : Try.prog.cellsOf 66 = 6 := by kernel_rfl
theorem cells68 : Try.prog.cellsOf 68 = 15 := by kernel_rfl
theorem cells38 : Try.prog.cellsOf 38 = 11 := by kernel_rfl
theorem okArray {P : Program} {w : World} {r : Reach} {base : Nat} {v : Value} {n : Nat} {e t : TypeId} (ht : P.underlying t = some (.array n e)) (h : Value.okWide P w r base t v) : ∃ cs, v = .agg cs ∧ cs.size = P.cellsOf t := by
  simp only [Value.okWide, ht] at h
  obtain ⟨cs, h1, h2, _⟩ := h
  exact ⟨cs, h1, h2⟩
theorem isRow_of {H : Type} {enc : TypeId × Value → H} {P : Program} {W : World} {t e : TypeId} {k : IntKind} {n : Nat} {a : Option Addr} {len cap : Nat} {y : DataW H × List MemPlace} (ht : P.underlying t = some (.slice e)) (he : P.underlying e = some (.int k)) (hc : P.cellsOf e = 1)
    (hf : DataW.trod enc P W 0 (fun _ => true) true n t [.slice a len cap] = some y) : ∃ zs, IsRow k W a len cap zs := by
  rcases open_ints ht he hc hf with ⟨hcs, _⟩ | ⟨x, l, c, zs, hcs, _, hl, hm, hz, _, hcell, hwz⟩
  · simp at hcs
    obtain ⟨rfl, rfl, rfl⟩ := hcs
    exact ⟨[], .inl ⟨rfl, rfl, rfl, rfl⟩⟩
  · simp at hcs
    obtain ⟨rfl, rfl, rfl⟩ := hcs
    exact ⟨zs, .inr ⟨_, rfl, hl, hm, by simpa using hz, hcell, hwz⟩⟩
theorem list4 {α : Type} (l : List α) (h : l.length = 4) : ∃ c0 c1 c2 c3, l = [c0, c1, c2, c3] := by
  obtain ⟨c0, l0, e0, h0⟩ := cons_of h
  obtain ⟨c1, l1, e1, h1⟩ := cons_of h0
  obtain ⟨c2, l2, e2, h2⟩ := cons_of h1
  obtain ⟨c3, l3, e3, h3⟩ := cons_of h2
  have e4 := List.eq_nil_of_length_eq_zero h3
  subst e4 e3 e2 e1 e0
  exact ⟨c0, c1, c2, c3, rfl⟩
set_option maxRecDepth 100000 in
theorem open25 {H : Type} {enc : TypeId × Value → H} {W : World} {base : Nat} {v : Value} {d : DataW H} {p : List MemPlace} (hv : Value.okWide Try.prog W .any base 25 v) (h : DataW.Trod enc Try.prog W 0 (fun _ => true) true 25 v d p) :
    ∃ (ax_0 : Int) (ax_1 : Int) (ax_2 : Int) (ax_3 : Option Addr) (lenx_3 capx_3 : Nat) (zx_3 : List Int), (Lit.int .u8 ax_0).wf = true ∧ (Lit.int .u8 ax_1).wf = true ∧ (Lit.int .u32 ax_2).wf = true ∧ IsRow .u8 W ax_3 lenx_3 capx_3 zx_3 ∧ v = .agg #[.int .u8 ax_0, .int .u8 ax_1, .int .u32 ax_2, .slice ax_3 lenx_3 capx_3] := by
  obtain ⟨cs, rfl, hsz⟩ := okWide_struct Try.underlying25 hv
  rw [cells25] at hsz
  obtain ⟨l⟩ := cs
  have hsz2 : l.length = 4 := hsz
  obtain ⟨c0, c1, c2, c3, rfl⟩ := list4 l hsz2
  obtain ⟨fuel, hf⟩ := h
  have hf : DataW.trod enc Try.prog W 0 (fun _ => true) true fuel 25 [c0, c1, c2, c3] = some (d, p) := hf
  obtain ⟨xs0, n0, -, -, -, hl0, hx0⟩ := DataW.trod_struct Try.underlying25 hf
  obtain ⟨y0_0, hy0_0⟩ : ∃ y, xs0[0]? = some y := ⟨_, List.getElem?_eq_getElem (by rw [hl0]; decide)⟩
  have g0_0 : DataW.trod enc Try.prog W 0 (fun _ => true) true n0 5 [c0] = some y0_0 := by
    have g0 := hx0 0 _ rfl
    rw [hy0_0] at g0
    simpa [Value.cells, cells5] using g0
  obtain ⟨y0_1, hy0_1⟩ : ∃ y, xs0[1]? = some y := ⟨_, List.getElem?_eq_getElem (by rw [hl0]; decide)⟩
  have g0_1 : DataW.trod enc Try.prog W 0 (fun _ => true) true n0 5 [c1] = some y0_1 := by
    have g0 := hx0 1 _ rfl
    rw [hy0_1] at g0
    simpa [Value.cells, cells5] using g0
  obtain ⟨y0_2, hy0_2⟩ : ∃ y, xs0[2]? = some y := ⟨_, List.getElem?_eq_getElem (by rw [hl0]; decide)⟩
  have g0_2 : DataW.trod enc Try.prog W 0 (fun _ => true) true n0 22 [c2] = some y0_2 := by
    have g0 := hx0 2 _ rfl
    rw [hy0_2] at g0
    simpa [Value.cells, cells22] using g0
  obtain ⟨y0_3, hy0_3⟩ : ∃ y, xs0[3]? = some y := ⟨_, List.getElem?_eq_getElem (by rw [hl0]; decide)⟩
  have g0_3 : DataW.trod enc Try.prog W 0 (fun _ => true) true n0 23 [c3] = some y0_3 := by
    have g0 := hx0 3 _ rfl
    rw [hy0_3] at g0
    simpa [Value.cells, cells23] using g0
  clear hf hx0
  obtain ⟨ax_0, ex_0, -, wx_0⟩ := DataW.trod_int Try.underlying5 g0_0
  obtain rfl : c0 = .int .u8 ax_0 := by simpa using ex_0
  clear g0_0 ex_0
  obtain ⟨ax_1, ex_1, -, wx_1⟩ := DataW.trod_int Try.underlying5 g0_1
  obtain rfl : c1 = .int .u8 ax_1 := by simpa using ex_1
  clear g0_1 ex_1
  obtain ⟨ax_2, ex_2, -, wx_2⟩ := DataW.trod_int Try.underlying22 g0_2
  obtain rfl : c2 = .int .u32 ax_2 := by simpa using ex_2
  clear g0_2 ex_2
  obtain ⟨ax_3, lenx_3, capx_3, ex_3⟩ := Go.Joins.slice_form Try.underlying23 g0_3
  obtain rfl : c3 = .slice ax_3 lenx_3 capx_3 := by simpa using ex_3
  obtain ⟨zx_3, wx_3⟩ := isRow_of Try.underlying23 Try.underlying5 (by kernel_rfl) g0_3
  clear g0_3 ex_3
  exact ⟨ax_0, ax_1, ax_2, ax_3, lenx_3, capx_3, zx_3, wx_0, wx_1, wx_2, wx_3, rfl⟩
set_option maxRecDepth 100000 in
theorem open53 {H : Type} {enc : TypeId × Value → H} {W : World} {base : Nat} {v : Value} {d : DataW H} {p : List MemPlace} (hv : Value.okWide Try.prog W .any base 53 v) (h : DataW.Trod enc Try.prog W 0 (fun _ => true) true 53 v d p) :
    ∃ (ax_0 : Int) (ax_1 : Int) (ax_2 : Bool) (ax_3 : Option Addr) (lenx_3 capx_3 : Nat) (zx_3 : List Int), (Lit.int .u16 ax_0).wf = true ∧ (Lit.int .u16 ax_1).wf = true ∧ IsRow .u8 W ax_3 lenx_3 capx_3 zx_3 ∧ v = .agg #[.int .u16 ax_0, .int .u16 ax_1, .bool ax_2, .slice ax_3 lenx_3 capx_3] := by
  obtain ⟨cs, rfl, hsz⟩ := okWide_struct Try.underlying53 hv
  rw [cells53] at hsz
  obtain ⟨l⟩ := cs
  have hsz2 : l.length = 4 := hsz
  obtain ⟨c0, c1, c2, c3, rfl⟩ := list4 l hsz2
  obtain ⟨fuel, hf⟩ := h
  have hf : DataW.trod enc Try.prog W 0 (fun _ => true) true fuel 53 [c0, c1, c2, c3] = some (d, p) := hf
  obtain ⟨xs1, n1, -, -, -, hl1, hx1⟩ := DataW.trod_struct Try.underlying53 hf
  obtain ⟨y1_0, hy1_0⟩ : ∃ y, xs1[0]? = some y := ⟨_, List.getElem?_eq_getElem (by rw [hl1]; decide)⟩
  have g1_0 : DataW.trod enc Try.prog W 0 (fun _ => true) true n1 27 [c0] = some y1_0 := by
    have g0 := hx1 0 _ rfl
    rw [hy1_0] at g0
    simpa [Value.cells, cells27] using g0
  obtain ⟨y1_1, hy1_1⟩ : ∃ y, xs1[1]? = some y := ⟨_, List.getElem?_eq_getElem (by rw [hl1]; decide)⟩
  have g1_1 : DataW.trod enc Try.prog W 0 (fun _ => true) true n1 27 [c1] = some y1_1 := by
    have g0 := hx1 1 _ rfl
    rw [hy1_1] at g0
    simpa [Value.cells, cells27] using g0
  obtain ⟨y1_2, hy1_2⟩ : ∃ y, xs1[2]? = some y := ⟨_, List.getElem?_eq_getElem (by rw [hl1]; decide)⟩
  have g1_2 : DataW.trod enc Try.prog W 0 (fun _ => true) true n1 4 [c2] = some y1_2 := by
    have g0 := hx1 2 _ rfl
    rw [hy1_2] at g0
    simpa [Value.cells, cells4] using g0
  obtain ⟨y1_3, hy1_3⟩ : ∃ y, xs1[3]? = some y := ⟨_, List.getElem?_eq_getElem (by rw [hl1]; decide)⟩
  have g1_3 : DataW.trod enc Try.prog W 0 (fun _ => true) true n1 23 [c3] = some y1_3 := by
    have g0 := hx1 3 _ rfl
    rw [hy1_3] at g0
    simpa [Value.cells, cells23] using g0
  clear hf hx1
  obtain ⟨ax_0, ex_0, -, wx_0⟩ := DataW.trod_int Try.underlying27 g1_0
  obtain rfl : c0 = .int .u16 ax_0 := by simpa using ex_0
  clear g1_0 ex_0
  obtain ⟨ax_1, ex_1, -, wx_1⟩ := DataW.trod_int Try.underlying27 g1_1
  obtain rfl : c1 = .int .u16 ax_1 := by simpa using ex_1
  clear g1_1 ex_1
  obtain ⟨ax_2, ex_2, -⟩ := DataW.trod_bool Try.underlying4 g1_2
  obtain rfl : c2 = .bool ax_2 := by simpa using ex_2
  clear g1_2 ex_2
  obtain ⟨ax_3, lenx_3, capx_3, ex_3⟩ := Go.Joins.slice_form Try.underlying23 g1_3
  obtain rfl : c3 = .slice ax_3 lenx_3 capx_3 := by simpa using ex_3
  obtain ⟨zx_3, wx_3⟩ := isRow_of Try.underlying23 Try.underlying5 (by kernel_rfl) g1_3
  clear g1_3 ex_3
  exact ⟨ax_0, ax_1, ax_2, ax_3, lenx_3, capx_3, zx_3, wx_0, wx_1, wx_3, rfl⟩
theorem list10 {α : Type} (l : List α) (h : l.length = 10) : ∃ c0 c1 c2 c3 c4 c5 c6 c7 c8 c9, l = [c0, c1, c2, c3, c4, c5, c6, c7, c8, c9] := by
  obtain ⟨c0, l0, e0, h0⟩ := cons_of h
  obtain ⟨c1, l1, e1, h1⟩ := cons_of h0
  obtain ⟨c2, l2, e2, h2⟩ := cons_of h1
  obtain ⟨c3, l3, e3, h3⟩ := cons_of h2
  obtain ⟨c4, l4, e4, h4⟩ := cons_of h3
  obtain ⟨c5, l5, e5, h5⟩ := cons_of h4
  obtain ⟨c6, l6, e6, h6⟩ := cons_of h5
  obtain ⟨c7, l7, e7, h7⟩ := cons_of h6
  obtain ⟨c8, l8, e8, h8⟩ := cons_of h7
  obtain ⟨c9, l9, e9, h9⟩ := cons_of h8
  have e10 := List.eq_nil_of_length_eq_zero h9
  subst e10 e9 e8 e7 e6 e5 e4 e3 e2 e1 e0
  exact ⟨c0, c1, c2, c3, c4, c5, c6, c7, c8, c9, rfl⟩
set_option maxRecDepth 100000 in
theorem open59 {H : Type} {enc : TypeId × Value → H} {W : World} {base : Nat} {v : Value} {d : DataW H} {p : List MemPlace} (hv : Value.okWide Try.prog W .any base 59 v) (h : DataW.Trod enc Try.prog W 0 (fun _ => true) true 59 v d p) :
    ∃ (ax_0 : Int) (ax_1 : Int) (ax_2 : Int) (ax_3 : Int) (ax_4 : Int) (ax_5 : Int) (ax_6 : Int) (ax_7 : Int) (ax_8 : Option Addr) (lenx_8 capx_8 : Nat) (zx_8 : List Int) (ax_9 : Option Addr) (lenx_9 capx_9 : Nat) (zx_9 : List Int), (Lit.int .u16 ax_0).wf = true ∧ (Lit.int .u16 ax_1).wf = true ∧ (Lit.int .u32 ax_2).wf = true ∧ (Lit.int .u32 ax_3).wf = true ∧ (Lit.int .u8 ax_4).wf = true ∧ (Lit.int .u8 ax_5).wf = true ∧ (Lit.int .u16 ax_6).wf = true ∧ (Lit.int .u16 ax_7).wf = true ∧ IsRow .u8 W ax_8 lenx_8 capx_8 zx_8 ∧ IsRow .u8 W ax_9 lenx_9 capx_9 zx_9 ∧ v = .agg #[.int .u16 ax_0, .int .u16 ax_1, .int .u32 ax_2, .int .u32 ax_3, .int .u8 ax_4, .int .u8 ax_5, .int .u16 ax_6, .int .u16 ax_7, .slice ax_8 lenx_8 capx_8, .slice ax_9 lenx_9 capx_9] := by
  obtain ⟨cs, rfl, hsz⟩ := okWide_struct Try.underlying59 hv
  rw [cells59] at hsz
  obtain ⟨l⟩ := cs
  have hsz2 : l.length = 10 := hsz
  obtain ⟨c0, c1, c2, c3, c4, c5, c6, c7, c8, c9, rfl⟩ := list10 l hsz2
  obtain ⟨fuel, hf⟩ := h
  have hf : DataW.trod enc Try.prog W 0 (fun _ => true) true fuel 59 [c0, c1, c2, c3, c4, c5, c6, c7, c8, c9] = some (d, p) := hf
  obtain ⟨xs2, n2, -, -, -, hl2, hx2⟩ := DataW.trod_struct Try.underlying59 hf
  obtain ⟨y2_0, hy2_0⟩ : ∃ y, xs2[0]? = some y := ⟨_, List.getElem?_eq_getElem (by rw [hl2]; decide)⟩
  have g2_0 : DataW.trod enc Try.prog W 0 (fun _ => true) true n2 27 [c0] = some y2_0 := by
    have g0 := hx2 0 _ rfl
    rw [hy2_0] at g0
    simpa [Value.cells, cells27] using g0
  obtain ⟨y2_1, hy2_1⟩ : ∃ y, xs2[1]? = some y := ⟨_, List.getElem?_eq_getElem (by rw [hl2]; decide)⟩
  have g2_1 : DataW.trod enc Try.prog W 0 (fun _ => true) true n2 27 [c1] = some y2_1 := by
    have g0 := hx2 1 _ rfl
    rw [hy2_1] at g0
    simpa [Value.cells, cells27] using g0
  obtain ⟨y2_2, hy2_2⟩ : ∃ y, xs2[2]? = some y := ⟨_, List.getElem?_eq_getElem (by rw [hl2]; decide)⟩
  have g2_2 : DataW.trod enc Try.prog W 0 (fun _ => true) true n2 22 [c2] = some y2_2 := by
    have g0 := hx2 2 _ rfl
    rw [hy2_2] at g0
    simpa [Value.cells, cells22] using g0
  obtain ⟨y2_3, hy2_3⟩ : ∃ y, xs2[3]? = some y := ⟨_, List.getElem?_eq_getElem (by rw [hl2]; decide)⟩
  have g2_3 : DataW.trod enc Try.prog W 0 (fun _ => true) true n2 22 [c3] = some y2_3 := by
    have g0 := hx2 3 _ rfl
    rw [hy2_3] at g0
    simpa [Value.cells, cells22] using g0
  obtain ⟨y2_4, hy2_4⟩ : ∃ y, xs2[4]? = some y := ⟨_, List.getElem?_eq_getElem (by rw [hl2]; decide)⟩
  have g2_4 : DataW.trod enc Try.prog W 0 (fun _ => true) true n2 5 [c4] = some y2_4 := by
    have g0 := hx2 4 _ rfl
    rw [hy2_4] at g0
    simpa [Value.cells, cells5] using g0
  obtain ⟨y2_5, hy2_5⟩ : ∃ y, xs2[5]? = some y := ⟨_, List.getElem?_eq_getElem (by rw [hl2]; decide)⟩
  have g2_5 : DataW.trod enc Try.prog W 0 (fun _ => true) true n2 5 [c5] = some y2_5 := by
    have g0 := hx2 5 _ rfl
    rw [hy2_5] at g0
    simpa [Value.cells, cells5] using g0
  obtain ⟨y2_6, hy2_6⟩ : ∃ y, xs2[6]? = some y := ⟨_, List.getElem?_eq_getElem (by rw [hl2]; decide)⟩
  have g2_6 : DataW.trod enc Try.prog W 0 (fun _ => true) true n2 27 [c6] = some y2_6 := by
    have g0 := hx2 6 _ rfl
    rw [hy2_6] at g0
    simpa [Value.cells, cells27] using g0
  obtain ⟨y2_7, hy2_7⟩ : ∃ y, xs2[7]? = some y := ⟨_, List.getElem?_eq_getElem (by rw [hl2]; decide)⟩
  have g2_7 : DataW.trod enc Try.prog W 0 (fun _ => true) true n2 27 [c7] = some y2_7 := by
    have g0 := hx2 7 _ rfl
    rw [hy2_7] at g0
    simpa [Value.cells, cells27] using g0
  obtain ⟨y2_8, hy2_8⟩ : ∃ y, xs2[8]? = some y := ⟨_, List.getElem?_eq_getElem (by rw [hl2]; decide)⟩
  have g2_8 : DataW.trod enc Try.prog W 0 (fun _ => true) true n2 23 [c8] = some y2_8 := by
    have g0 := hx2 8 _ rfl
    rw [hy2_8] at g0
    simpa [Value.cells, cells23] using g0
  obtain ⟨y2_9, hy2_9⟩ : ∃ y, xs2[9]? = some y := ⟨_, List.getElem?_eq_getElem (by rw [hl2]; decide)⟩
  have g2_9 : DataW.trod enc Try.prog W 0 (fun _ => true) true n2 23 [c9] = some y2_9 := by
    have g0 := hx2 9 _ rfl
    rw [hy2_9] at g0
    simpa [Value.cells, cells23] using g0
  clear hf hx2
  obtain ⟨ax_0, ex_0, -, wx_0⟩ := DataW.trod_int Try.underlying27 g2_0
  obtain rfl : c0 = .int .u16 ax_0 := by simpa using ex_0
  clear g2_0 ex_0
  obtain ⟨ax_1, ex_1, -, wx_1⟩ := DataW.trod_int Try.underlying27 g2_1
  obtain rfl : c1 = .int .u16 ax_1 := by simpa using ex_1
  clear g2_1 ex_1
  obtain ⟨ax_2, ex_2, -, wx_2⟩ := DataW.trod_int Try.underlying22 g2_2
  obtain rfl : c2 = .int .u32 ax_2 := by simpa using ex_2
  clear g2_2 ex_2
  obtain ⟨ax_3, ex_3, -, wx_3⟩ := DataW.trod_int Try.underlying22 g2_3
  obtain rfl : c3 = .int .u32 ax_3 := by simpa using ex_3
  clear g2_3 ex_3
  obtain ⟨ax_4, ex_4, -, wx_4⟩ := DataW.trod_int Try.underlying5 g2_4
  obtain rfl : c4 = .int .u8 ax_4 := by simpa using ex_4
  clear g2_4 ex_4
  obtain ⟨ax_5, ex_5, -, wx_5⟩ := DataW.trod_int Try.underlying5 g2_5
  obtain rfl : c5 = .int .u8 ax_5 := by simpa using ex_5
  clear g2_5 ex_5
  obtain ⟨ax_6, ex_6, -, wx_6⟩ := DataW.trod_int Try.underlying27 g2_6
  obtain rfl : c6 = .int .u16 ax_6 := by simpa using ex_6
  clear g2_6 ex_6
  obtain ⟨ax_7, ex_7, -, wx_7⟩ := DataW.trod_int Try.underlying27 g2_7
  obtain rfl : c7 = .int .u16 ax_7 := by simpa using ex_7
  clear g2_7 ex_7
  obtain ⟨ax_8, lenx_8, capx_8, ex_8⟩ := Go.Joins.slice_form Try.underlying23 g2_8
  obtain rfl : c8 = .slice ax_8 lenx_8 capx_8 := by simpa using ex_8
  obtain ⟨zx_8, wx_8⟩ := isRow_of Try.underlying23 Try.underlying5 (by kernel_rfl) g2_8
  clear g2_8 ex_8
  obtain ⟨ax_9, lenx_9, capx_9, ex_9⟩ := Go.Joins.slice_form Try.underlying23 g2_9
  obtain rfl : c9 = .slice ax_9 lenx_9 capx_9 := by simpa using ex_9
  obtain ⟨zx_9, wx_9⟩ := isRow_of Try.underlying23 Try.underlying5 (by kernel_rfl) g2_9
  clear g2_9 ex_9
  exact ⟨ax_0, ax_1, ax_2, ax_3, ax_4, ax_5, ax_6, ax_7, ax_8, lenx_8, capx_8, zx_8, ax_9, lenx_9, capx_9, zx_9, wx_0, wx_1, wx_2, wx_3, wx_4, wx_5, wx_6, wx_7, wx_8, wx_9, rfl⟩
theorem list15 {α : Type} (l : List α) (h : l.length = 15) : ∃ c0 c1 c2 c3 c4 c5 c6 c7 c8 c9 c10 c11 c12 c13 c14, l = [c0, c1, c2, c3, c4, c5, c6, c7, c8, c9, c10, c11, c12, c13, c14] := by
  obtain ⟨c0, l0, e0, h0⟩ := cons_of h
  obtain ⟨c1, l1, e1, h1⟩ := cons_of h0
  obtain ⟨c2, l2, e2, h2⟩ := cons_of h1
  obtain ⟨c3, l3, e3, h3⟩ := cons_of h2
  obtain ⟨c4, l4, e4, h4⟩ := cons_of h3
  obtain ⟨c5, l5, e5, h5⟩ := cons_of h4
  obtain ⟨c6, l6, e6, h6⟩ := cons_of h5
  obtain ⟨c7, l7, e7, h7⟩ := cons_of h6
  obtain ⟨c8, l8, e8, h8⟩ := cons_of h7
  obtain ⟨c9, l9, e9, h9⟩ := cons_of h8
  obtain ⟨c10, l10, e10, h10⟩ := cons_of h9
  obtain ⟨c11, l11, e11, h11⟩ := cons_of h10
  obtain ⟨c12, l12, e12, h12⟩ := cons_of h11
  obtain ⟨c13, l13, e13, h13⟩ := cons_of h12
  obtain ⟨c14, l14, e14, h14⟩ := cons_of h13
  have e15 := List.eq_nil_of_length_eq_zero h14
  subst e15 e14 e13 e12 e11 e10 e9 e8 e7 e6 e5 e4 e3 e2 e1 e0
  exact ⟨c0, c1, c2, c3, c4, c5, c6, c7, c8, c9, c10, c11, c12, c13, c14, rfl⟩
set_option maxRecDepth 100000 in
theorem open68 {H : Type} {enc : TypeId × Value → H} {W : World} {base : Nat} {v : Value} {d : DataW H} {p : List MemPlace} (hv : Value.okWide Try.prog W .any base 68 v) (h : DataW.Trod enc Try.prog W 0 (fun _ => true) true 68 v d p) :
    ∃ (ax_0 : Int) (ax_1_0 : Int) (ax_1_1 : Int) (ax_1_2 : Int) (ax_1_3 : Int) (ax_1_4 : Int) (ax_1_5 : Int) (ax_2 : Int) (ax_3_0 : Int) (ax_3_1 : Int) (ax_3_2 : Int) (ax_3_3 : Int) (ax_3_4 : Int) (ax_3_5 : Int) (ax_4 : Int), (Lit.int .u16 ax_0).wf = true ∧ (Lit.int .u8 ax_1_0).wf = true ∧ (Lit.int .u8 ax_1_1).wf = true ∧ (Lit.int .u8 ax_1_2).wf = true ∧ (Lit.int .u8 ax_1_3).wf = true ∧ (Lit.int .u8 ax_1_4).wf = true ∧ (Lit.int .u8 ax_1_5).wf = true ∧ (Lit.int .u32 ax_2).wf = true ∧ (Lit.int .u8 ax_3_0).wf = true ∧ (Lit.int .u8 ax_3_1).wf = true ∧ (Lit.int .u8 ax_3_2).wf = true ∧ (Lit.int .u8 ax_3_3).wf = true ∧ (Lit.int .u8 ax_3_4).wf = true ∧ (Lit.int .u8 ax_3_5).wf = true ∧ (Lit.int .u32 ax_4).wf = true ∧ v = .agg #[.int .u16 ax_0, .int .u8 ax_1_0, .int .u8 ax_1_1, .int .u8 ax_1_2, .int .u8 ax_1_3, .int .u8 ax_1_4, .int .u8 ax_1_5, .int .u32 ax_2, .int .u8 ax_3_0, .int .u8 ax_3_1, .int .u8 ax_3_2, .int .u8 ax_3_3, .int .u8 ax_3_4, .int .u8 ax_3_5, .int .u32 ax_4] := by
  obtain ⟨cs, rfl, hsz⟩ := okWide_struct Try.underlying68 hv
  rw [cells68] at hsz
  obtain ⟨l⟩ := cs
  have hsz2 : l.length = 15 := hsz
  obtain ⟨c0, c1, c2, c3, c4, c5, c6, c7, c8, c9, c10, c11, c12, c13, c14, rfl⟩ := list15 l hsz2
  obtain ⟨fuel, hf⟩ := h
  have hf : DataW.trod enc Try.prog W 0 (fun _ => true) true fuel 68 [c0, c1, c2, c3, c4, c5, c6, c7, c8, c9, c10, c11, c12, c13, c14] = some (d, p) := hf
  obtain ⟨xs3, n3, -, -, -, hl3, hx3⟩ := DataW.trod_struct Try.underlying68 hf
  obtain ⟨y3_0, hy3_0⟩ : ∃ y, xs3[0]? = some y := ⟨_, List.getElem?_eq_getElem (by rw [hl3]; decide)⟩
  have g3_0 : DataW.trod enc Try.prog W 0 (fun _ => true) true n3 27 [c0] = some y3_0 := by
    have g0 := hx3 0 _ rfl
    rw [hy3_0] at g0
    simpa [Value.cells, cells27] using g0
  obtain ⟨y3_1, hy3_1⟩ : ∃ y, xs3[1]? = some y := ⟨_, List.getElem?_eq_getElem (by rw [hl3]; decide)⟩
  have g3_1 : DataW.trod enc Try.prog W 0 (fun _ => true) true n3 66 [c1, c2, c3, c4, c5, c6] = some y3_1 := by
    have g0 := hx3 1 _ rfl
    rw [hy3_1] at g0
    simpa [Value.cells, cells66] using g0
  obtain ⟨y3_2, hy3_2⟩ : ∃ y, xs3[2]? = some y := ⟨_, List.getElem?_eq_getElem (by rw [hl3]; decide)⟩
  have g3_2 : DataW.trod enc Try.prog W 0 (fun _ => true) true n3 22 [c7] = some y3_2 := by
    have g0 := hx3 2 _ rfl
    rw [hy3_2] at g0
    simpa [Value.cells, cells22] using g0
  obtain ⟨y3_3, hy3_3⟩ : ∃ y, xs3[3]? = some y := ⟨_, List.getElem?_eq_getElem (by rw [hl3]; decide)⟩
  have g3_3 : DataW.trod enc Try.prog W 0 (fun _ => true) true n3 66 [c8, c9, c10, c11, c12, c13] = some y3_3 := by
    have g0 := hx3 3 _ rfl
    rw [hy3_3] at g0
    simpa [Value.cells, cells66] using g0
  obtain ⟨y3_4, hy3_4⟩ : ∃ y, xs3[4]? = some y := ⟨_, List.getElem?_eq_getElem (by rw [hl3]; decide)⟩
  have g3_4 : DataW.trod enc Try.prog W 0 (fun _ => true) true n3 22 [c14] = some y3_4 := by
    have g0 := hx3 4 _ rfl
    rw [hy3_4] at g0
    simpa [Value.cells, cells22] using g0
  clear hf hx3
  obtain ⟨ax_0, ex_0, -, wx_0⟩ := DataW.trod_int Try.underlying27 g3_0
  obtain rfl : c0 = .int .u16 ax_0 := by simpa using ex_0
  clear g3_0 ex_0
  obtain ⟨xs4, n4, -, -, -, hl4, hx4⟩ := DataW.trod_array Try.underlying66 g3_1
  obtain ⟨y4_0, hy4_0⟩ : ∃ y, xs4[0]? = some y := ⟨_, List.getElem?_eq_getElem (by rw [hl4]; decide)⟩
  have g4_0 : DataW.trod enc Try.prog W 0 (fun _ => true) true n4 5 [c1] = some y4_0 := by
    have g0 := hx4 0 (by decide)
    rw [hy4_0] at g0
    simpa [Value.cells, cells5] using g0
  obtain ⟨y4_1, hy4_1⟩ : ∃ y, xs4[1]? = some y := ⟨_, List.getElem?_eq_getElem (by rw [hl4]; decide)⟩
  have g4_1 : DataW.trod enc Try.prog W 0 (fun _ => true) true n4 5 [c2] = some y4_1 := by
    have g0 := hx4 1 (by decide)
    rw [hy4_1] at g0
    simpa [Value.cells, cells5] using g0
  obtain ⟨y4_2, hy4_2⟩ : ∃ y, xs4[2]? = some y := ⟨_, List.getElem?_eq_getElem (by rw [hl4]; decide)⟩
  have g4_2 : DataW.trod enc Try.prog W 0 (fun _ => true) true n4 5 [c3] = some y4_2 := by
    have g0 := hx4 2 (by decide)
    rw [hy4_2] at g0
    simpa [Value.cells, cells5] using g0
  obtain ⟨y4_3, hy4_3⟩ : ∃ y, xs4[3]? = some y := ⟨_, List.getElem?_eq_getElem (by rw [hl4]; decide)⟩
  have g4_3 : DataW.trod enc Try.prog W 0 (fun _ => true) true n4 5 [c4] = some y4_3 := by
    have g0 := hx4 3 (by decide)
    rw [hy4_3] at g0
    simpa [Value.cells, cells5] using g0
  obtain ⟨y4_4, hy4_4⟩ : ∃ y, xs4[4]? = some y := ⟨_, List.getElem?_eq_getElem (by rw [hl4]; decide)⟩
  have g4_4 : DataW.trod enc Try.prog W 0 (fun _ => true) true n4 5 [c5] = some y4_4 := by
    have g0 := hx4 4 (by decide)
    rw [hy4_4] at g0
    simpa [Value.cells, cells5] using g0
  obtain ⟨y4_5, hy4_5⟩ : ∃ y, xs4[5]? = some y := ⟨_, List.getElem?_eq_getElem (by rw [hl4]; decide)⟩
  have g4_5 : DataW.trod enc Try.prog W 0 (fun _ => true) true n4 5 [c6] = some y4_5 := by
    have g0 := hx4 5 (by decide)
    rw [hy4_5] at g0
    simpa [Value.cells, cells5] using g0
  clear g3_1 hx4
  obtain ⟨ax_1_0, ex_1_0, -, wx_1_0⟩ := DataW.trod_int Try.underlying5 g4_0
  obtain rfl : c1 = .int .u8 ax_1_0 := by simpa using ex_1_0
  clear g4_0 ex_1_0
  obtain ⟨ax_1_1, ex_1_1, -, wx_1_1⟩ := DataW.trod_int Try.underlying5 g4_1
  obtain rfl : c2 = .int .u8 ax_1_1 := by simpa using ex_1_1
  clear g4_1 ex_1_1
  obtain ⟨ax_1_2, ex_1_2, -, wx_1_2⟩ := DataW.trod_int Try.underlying5 g4_2
  obtain rfl : c3 = .int .u8 ax_1_2 := by simpa using ex_1_2
  clear g4_2 ex_1_2
  obtain ⟨ax_1_3, ex_1_3, -, wx_1_3⟩ := DataW.trod_int Try.underlying5 g4_3
  obtain rfl : c4 = .int .u8 ax_1_3 := by simpa using ex_1_3
  clear g4_3 ex_1_3
  obtain ⟨ax_1_4, ex_1_4, -, wx_1_4⟩ := DataW.trod_int Try.underlying5 g4_4
  obtain rfl : c5 = .int .u8 ax_1_4 := by simpa using ex_1_4
  clear g4_4 ex_1_4
  obtain ⟨ax_1_5, ex_1_5, -, wx_1_5⟩ := DataW.trod_int Try.underlying5 g4_5
  obtain rfl : c6 = .int .u8 ax_1_5 := by simpa using ex_1_5
  clear g4_5 ex_1_5
  obtain ⟨ax_2, ex_2, -, wx_2⟩ := DataW.trod_int Try.underlying22 g3_2
  obtain rfl : c7 = .int .u32 ax_2 := by simpa using ex_2
  clear g3_2 ex_2
  obtain ⟨xs5, n5, -, -, -, hl5, hx5⟩ := DataW.trod_array Try.underlying66 g3_3
  obtain ⟨y5_0, hy5_0⟩ : ∃ y, xs5[0]? = some y := ⟨_, List.getElem?_eq_getElem (by rw [hl5]; decide)⟩
  have g5_0 : DataW.trod enc Try.prog W 0 (fun _ => true) true n5 5 [c8] = some y5_0 := by
    have g0 := hx5 0 (by decide)
    rw [hy5_0] at g0
    simpa [Value.cells, cells5] using g0
  obtain ⟨y5_1, hy5_1⟩ : ∃ y, xs5[1]? = some y := ⟨_, List.getElem?_eq_getElem (by rw [hl5]; decide)⟩
  have g5_1 : DataW.trod enc Try.prog W 0 (fun _ => true) true n5 5 [c9] = some y5_1 := by
    have g0 := hx5 1 (by decide)
    rw [hy5_1] at g0
    simpa [Value.cells, cells5] using g0
  obtain ⟨y5_2, hy5_2⟩ : ∃ y, xs5[2]? = some y := ⟨_, List.getElem?_eq_getElem (by rw [hl5]; decide)⟩
  have g5_2 : DataW.trod enc Try.prog W 0 (fun _ => true) true n5 5 [c10] = some y5_2 := by
    have g0 := hx5 2 (by decide)
    rw [hy5_2] at g0
    simpa [Value.cells, cells5] using g0
  obtain ⟨y5_3, hy5_3⟩ : ∃ y, xs5[3]? = some y := ⟨_, List.getElem?_eq_getElem (by rw [hl5]; decide)⟩
  have g5_3 : DataW.trod enc Try.prog W 0 (fun _ => true) true n5 5 [c11] = some y5_3 := by
    have g0 := hx5 3 (by decide)
    rw [hy5_3] at g0
    simpa [Value.cells, cells5] using g0
  obtain ⟨y5_4, hy5_4⟩ : ∃ y, xs5[4]? = some y := ⟨_, List.getElem?_eq_getElem (by rw [hl5]; decide)⟩
  have g5_4 : DataW.trod enc Try.prog W 0 (fun _ => true) true n5 5 [c12] = some y5_4 := by
    have g0 := hx5 4 (by decide)
    rw [hy5_4] at g0
    simpa [Value.cells, cells5] using g0
  obtain ⟨y5_5, hy5_5⟩ : ∃ y, xs5[5]? = some y := ⟨_, List.getElem?_eq_getElem (by rw [hl5]; decide)⟩
  have g5_5 : DataW.trod enc Try.prog W 0 (fun _ => true) true n5 5 [c13] = some y5_5 := by
    have g0 := hx5 5 (by decide)
    rw [hy5_5] at g0
    simpa [Value.cells, cells5] using g0
  clear g3_3 hx5
  obtain ⟨ax_3_0, ex_3_0, -, wx_3_0⟩ := DataW.trod_int Try.underlying5 g5_0
  obtain rfl : c8 = .int .u8 ax_3_0 := by simpa using ex_3_0
  clear g5_0 ex_3_0
  obtain ⟨ax_3_1, ex_3_1, -, wx_3_1⟩ := DataW.trod_int Try.underlying5 g5_1
  obtain rfl : c9 = .int .u8 ax_3_1 := by simpa using ex_3_1
  clear g5_1 ex_3_1
  obtain ⟨ax_3_2, ex_3_2, -, wx_3_2⟩ := DataW.trod_int Try.underlying5 g5_2
  obtain rfl : c10 = .int .u8 ax_3_2 := by simpa using ex_3_2
  clear g5_2 ex_3_2
  obtain ⟨ax_3_3, ex_3_3, -, wx_3_3⟩ := DataW.trod_int Try.underlying5 g5_3
  obtain rfl : c11 = .int .u8 ax_3_3 := by simpa using ex_3_3
  clear g5_3 ex_3_3
  obtain ⟨ax_3_4, ex_3_4, -, wx_3_4⟩ := DataW.trod_int Try.underlying5 g5_4
  obtain rfl : c12 = .int .u8 ax_3_4 := by simpa using ex_3_4
  clear g5_4 ex_3_4
  obtain ⟨ax_3_5, ex_3_5, -, wx_3_5⟩ := DataW.trod_int Try.underlying5 g5_5
  obtain rfl : c13 = .int .u8 ax_3_5 := by simpa using ex_3_5
  clear g5_5 ex_3_5
  obtain ⟨ax_4, ex_4, -, wx_4⟩ := DataW.trod_int Try.underlying22 g3_4
  obtain rfl : c14 = .int .u32 ax_4 := by simpa using ex_4
  clear g3_4 ex_4
  exact ⟨ax_0, ax_1_0, ax_1_1, ax_1_2, ax_1_3, ax_1_4, ax_1_5, ax_2, ax_3_0, ax_3_1, ax_3_2, ax_3_3, ax_3_4, ax_3_5, ax_4, wx_0, wx_1_0, wx_1_1, wx_1_2, wx_1_3, wx_1_4, wx_1_5, wx_2, wx_3_0, wx_3_1, wx_3_2, wx_3_3, wx_3_4, wx_3_5, wx_4, rfl⟩
theorem list11 {α : Type} (l : List α) (h : l.length = 11) : ∃ c0 c1 c2 c3 c4 c5 c6 c7 c8 c9 c10, l = [c0, c1, c2, c3, c4, c5, c6, c7, c8, c9, c10] := by
  obtain ⟨c0, l0, e0, h0⟩ := cons_of h
  obtain ⟨c1, l1, e1, h1⟩ := cons_of h0
  obtain ⟨c2, l2, e2, h2⟩ := cons_of h1
  obtain ⟨c3, l3, e3, h3⟩ := cons_of h2
  obtain ⟨c4, l4, e4, h4⟩ := cons_of h3
  obtain ⟨c5, l5, e5, h5⟩ := cons_of h4
  obtain ⟨c6, l6, e6, h6⟩ := cons_of h5
  obtain ⟨c7, l7, e7, h7⟩ := cons_of h6
  obtain ⟨c8, l8, e8, h8⟩ := cons_of h7
  obtain ⟨c9, l9, e9, h9⟩ := cons_of h8
  obtain ⟨c10, l10, e10, h10⟩ := cons_of h9
  have e11 := List.eq_nil_of_length_eq_zero h10
  subst e11 e10 e9 e8 e7 e6 e5 e4 e3 e2 e1 e0
  exact ⟨c0, c1, c2, c3, c4, c5, c6, c7, c8, c9, c10, rfl⟩
set_option maxRecDepth 100000 in
theorem open38 {H : Type} {enc : TypeId × Value → H} {W : World} {base : Nat} {v : Value} {d : DataW H} {p : List MemPlace} (hv : Value.okWide Try.prog W .any base 38 v) (h : DataW.Trod enc Try.prog W 0 (fun _ => true) true 38 v d p) :
    ∃ (ax_0 : Int) (ax_1 : Int) (ax_2 : Bool) (ax_3 : Bool) (ax_4 : Int) (ax_5 : Int) (ax_6 : Int) (ax_7 : Int) (ax_8 : Int) (ax_9 : Option Addr) (lenx_9 capx_9 : Nat) (zx_9 : List Int) (ax_10 : Option Addr) (lenx_10 capx_10 : Nat) (zx_10 : List Int), (Lit.int .u8 ax_0).wf = true ∧ (Lit.int .u16 ax_1).wf = true ∧ (Lit.int .u16 ax_4).wf = true ∧ (Lit.int .u8 ax_5).wf = true ∧ (Lit.int .u8 ax_6).wf = true ∧ (Lit.int .u32 ax_7).wf = true ∧ (Lit.int .u32 ax_8).wf = true ∧ IsRow .u8 W ax_9 lenx_9 capx_9 zx_9 ∧ IsRow .u8 W ax_10 lenx_10 capx_10 zx_10 ∧ v = .agg #[.int .u8 ax_0, .int .u16 ax_1, .bool ax_2, .bool ax_3, .int .u16 ax_4, .int .u8 ax_5, .int .u8 ax_6, .int .u32 ax_7, .int .u32 ax_8, .slice ax_9 lenx_9 capx_9, .slice ax_10 lenx_10 capx_10] := by
  obtain ⟨cs, rfl, hsz⟩ := okWide_struct Try.underlying38 hv
  rw [cells38] at hsz
  obtain ⟨l⟩ := cs
  have hsz2 : l.length = 11 := hsz
  obtain ⟨c0, c1, c2, c3, c4, c5, c6, c7, c8, c9, c10, rfl⟩ := list11 l hsz2
  obtain ⟨fuel, hf⟩ := h
  have hf : DataW.trod enc Try.prog W 0 (fun _ => true) true fuel 38 [c0, c1, c2, c3, c4, c5, c6, c7, c8, c9, c10] = some (d, p) := hf
  obtain ⟨xs6, n6, -, -, -, hl6, hx6⟩ := DataW.trod_struct Try.underlying38 hf
  obtain ⟨y6_0, hy6_0⟩ : ∃ y, xs6[0]? = some y := ⟨_, List.getElem?_eq_getElem (by rw [hl6]; decide)⟩
  have g6_0 : DataW.trod enc Try.prog W 0 (fun _ => true) true n6 5 [c0] = some y6_0 := by
    have g0 := hx6 0 _ rfl
    rw [hy6_0] at g0
    simpa [Value.cells, cells5] using g0
  obtain ⟨y6_1, hy6_1⟩ : ∃ y, xs6[1]? = some y := ⟨_, List.getElem?_eq_getElem (by rw [hl6]; decide)⟩
  have g6_1 : DataW.trod enc Try.prog W 0 (fun _ => true) true n6 27 [c1] = some y6_1 := by
    have g0 := hx6 1 _ rfl
    rw [hy6_1] at g0
    simpa [Value.cells, cells27] using g0
  obtain ⟨y6_2, hy6_2⟩ : ∃ y, xs6[2]? = some y := ⟨_, List.getElem?_eq_getElem (by rw [hl6]; decide)⟩
  have g6_2 : DataW.trod enc Try.prog W 0 (fun _ => true) true n6 4 [c2] = some y6_2 := by
    have g0 := hx6 2 _ rfl
    rw [hy6_2] at g0
    simpa [Value.cells, cells4] using g0
  obtain ⟨y6_3, hy6_3⟩ : ∃ y, xs6[3]? = some y := ⟨_, List.getElem?_eq_getElem (by rw [hl6]; decide)⟩
  have g6_3 : DataW.trod enc Try.prog W 0 (fun _ => true) true n6 4 [c3] = some y6_3 := by
    have g0 := hx6 3 _ rfl
    rw [hy6_3] at g0
    simpa [Value.cells, cells4] using g0
  obtain ⟨y6_4, hy6_4⟩ : ∃ y, xs6[4]? = some y := ⟨_, List.getElem?_eq_getElem (by rw [hl6]; decide)⟩
  have g6_4 : DataW.trod enc Try.prog W 0 (fun _ => true) true n6 27 [c4] = some y6_4 := by
    have g0 := hx6 4 _ rfl
    rw [hy6_4] at g0
    simpa [Value.cells, cells27] using g0
  obtain ⟨y6_5, hy6_5⟩ : ∃ y, xs6[5]? = some y := ⟨_, List.getElem?_eq_getElem (by rw [hl6]; decide)⟩
  have g6_5 : DataW.trod enc Try.prog W 0 (fun _ => true) true n6 5 [c5] = some y6_5 := by
    have g0 := hx6 5 _ rfl
    rw [hy6_5] at g0
    simpa [Value.cells, cells5] using g0
  obtain ⟨y6_6, hy6_6⟩ : ∃ y, xs6[6]? = some y := ⟨_, List.getElem?_eq_getElem (by rw [hl6]; decide)⟩
  have g6_6 : DataW.trod enc Try.prog W 0 (fun _ => true) true n6 5 [c6] = some y6_6 := by
    have g0 := hx6 6 _ rfl
    rw [hy6_6] at g0
    simpa [Value.cells, cells5] using g0
  obtain ⟨y6_7, hy6_7⟩ : ∃ y, xs6[7]? = some y := ⟨_, List.getElem?_eq_getElem (by rw [hl6]; decide)⟩
  have g6_7 : DataW.trod enc Try.prog W 0 (fun _ => true) true n6 22 [c7] = some y6_7 := by
    have g0 := hx6 7 _ rfl
    rw [hy6_7] at g0
    simpa [Value.cells, cells22] using g0
  obtain ⟨y6_8, hy6_8⟩ : ∃ y, xs6[8]? = some y := ⟨_, List.getElem?_eq_getElem (by rw [hl6]; decide)⟩
  have g6_8 : DataW.trod enc Try.prog W 0 (fun _ => true) true n6 22 [c8] = some y6_8 := by
    have g0 := hx6 8 _ rfl
    rw [hy6_8] at g0
    simpa [Value.cells, cells22] using g0
  obtain ⟨y6_9, hy6_9⟩ : ∃ y, xs6[9]? = some y := ⟨_, List.getElem?_eq_getElem (by rw [hl6]; decide)⟩
  have g6_9 : DataW.trod enc Try.prog W 0 (fun _ => true) true n6 23 [c9] = some y6_9 := by
    have g0 := hx6 9 _ rfl
    rw [hy6_9] at g0
    simpa [Value.cells, cells23] using g0
  obtain ⟨y6_10, hy6_10⟩ : ∃ y, xs6[10]? = some y := ⟨_, List.getElem?_eq_getElem (by rw [hl6]; decide)⟩
  have g6_10 : DataW.trod enc Try.prog W 0 (fun _ => true) true n6 23 [c10] = some y6_10 := by
    have g0 := hx6 10 _ rfl
    rw [hy6_10] at g0
    simpa [Value.cells, cells23] using g0
  clear hf hx6
  obtain ⟨ax_0, ex_0, -, wx_0⟩ := DataW.trod_int Try.underlying5 g6_0
  obtain rfl : c0 = .int .u8 ax_0 := by simpa using ex_0
  clear g6_0 ex_0
  obtain ⟨ax_1, ex_1, -, wx_1⟩ := DataW.trod_int Try.underlying27 g6_1
  obtain rfl : c1 = .int .u16 ax_1 := by simpa using ex_1
  clear g6_1 ex_1
  obtain ⟨ax_2, ex_2, -⟩ := DataW.trod_bool Try.underlying4 g6_2
  obtain rfl : c2 = .bool ax_2 := by simpa using ex_2
  clear g6_2 ex_2
  obtain ⟨ax_3, ex_3, -⟩ := DataW.trod_bool Try.underlying4 g6_3
  obtain rfl : c3 = .bool ax_3 := by simpa using ex_3
  clear g6_3 ex_3
  obtain ⟨ax_4, ex_4, -, wx_4⟩ := DataW.trod_int Try.underlying27 g6_4
  obtain rfl : c4 = .int .u16 ax_4 := by simpa using ex_4
  clear g6_4 ex_4
  obtain ⟨ax_5, ex_5, -, wx_5⟩ := DataW.trod_int Try.underlying5 g6_5
  obtain rfl : c5 = .int .u8 ax_5 := by simpa using ex_5
  clear g6_5 ex_5
  obtain ⟨ax_6, ex_6, -, wx_6⟩ := DataW.trod_int Try.underlying5 g6_6
  obtain rfl : c6 = .int .u8 ax_6 := by simpa using ex_6
  clear g6_6 ex_6
  obtain ⟨ax_7, ex_7, -, wx_7⟩ := DataW.trod_int Try.underlying22 g6_7
  obtain rfl : c7 = .int .u32 ax_7 := by simpa using ex_7
  clear g6_7 ex_7
  obtain ⟨ax_8, ex_8, -, wx_8⟩ := DataW.trod_int Try.underlying22 g6_8
  obtain rfl : c8 = .int .u32 ax_8 := by simpa using ex_8
  clear g6_8 ex_8
  obtain ⟨ax_9, lenx_9, capx_9, ex_9⟩ := Go.Joins.slice_form Try.underlying23 g6_9
  obtain rfl : c9 = .slice ax_9 lenx_9 capx_9 := by simpa using ex_9
  obtain ⟨zx_9, wx_9⟩ := isRow_of Try.underlying23 Try.underlying5 (by kernel_rfl) g6_9
  clear g6_9 ex_9
  obtain ⟨ax_10, lenx_10, capx_10, ex_10⟩ := Go.Joins.slice_form Try.underlying23 g6_10
  obtain rfl : c10 = .slice ax_10 lenx_10 capx_10 := by simpa using ex_10
  obtain ⟨zx_10, wx_10⟩ := isRow_of Try.underlying23 Try.underlying5 (by kernel_rfl) g6_10
  clear g6_10 ex_10
  exact ⟨ax_0, ax_1, ax_2, ax_3, ax_4, ax_5, ax_6, ax_7, ax_8, ax_9, lenx_9, capx_9, zx_9, ax_10, lenx_10, capx_10, zx_10, wx_0, wx_1, wx_4, wx_5, wx_6, wx_7, wx_8, wx_9, wx_10, rfl⟩

theorem walk (a0_0 : Int) (a0_1 : Int) (a0_2 : Int) (a0_3 : Option Addr) (len0_3 cap0_3 : Nat) (z0_3 : List Int) (a1_0 : Int) (a1_1 : Int) (a1_2 : Bool) (a1_3 : Option Addr) (len1_3 cap1_3 : Nat) (z1_3 : List Int) (a2_0 : Int) (a2_1 : Int) (a2_2 : Int) (a2_3 : Int) (a2_4 : Int) (a2_5 : Int) (a2_6 : Int) (a2_7 : Int) (a2_8 : Option Addr) (len2_8 cap2_8 : Nat) (z2_8 : List Int) (a2_9 : Option Addr) (len2_9 cap2_9 : Nat) (z2_9 : List Int) (a3_0 : Int) (a3_1_0 : Int) (a3_1_1 : Int) (a3_1_2 : Int) (a3_1_3 : Int) (a3_1_4 : Int) (a3_1_5 : Int) (a3_2 : Int) (a3_3_0 : Int) (a3_3_1 : Int) (a3_3_2 : Int) (a3_3_3 : Int) (a3_3_4 : Int) (a3_3_5 : Int) (a3_4 : Int) (a4_0 : Int) (a4_1 : Int) (a4_2 : Bool) (a4_3 : Bool) (a4_4 : Int) (a4_5 : Int) (a4_6 : Int) (a4_7 : Int) (a4_8 : Int) (a4_9 : Option Addr) (len4_9 cap4_9 : Nat) (z4_9 : List Int) (a4_10 : Option Addr) (len4_10 cap4_10 : Nat) (z4_10 : List Int) (a5 : Int) (w : World) (w0_0 : (Lit.int .u8 a0_0).wf = true) (w0_1 : (Lit.int .u8 a0_1).wf = true) (w0_2 : (Lit.int .u32 a0_2).wf = true) (w0_3 : IsRow .u8 w a0_3 len0_3 cap0_3 z0_3) (w1_0 : (Lit.int .u16 a1_0).wf = true) (w1_1 : (Lit.int .u16 a1_1).wf = true) (w1_3 : IsRow .u8 w a1_3 len1_3 cap1_3 z1_3) (w2_0 : (Lit.int .u16 a2_0).wf = true) (w2_1 : (Lit.int .u16 a2_1).wf = true) (w2_2 : (Lit.int .u32 a2_2).wf = true) (w2_3 : (Lit.int .u32 a2_3).wf = true) (w2_4 : (Lit.int .u8 a2_4).wf = true) (w2_5 : (Lit.int .u8 a2_5).wf = true) (w2_6 : (Lit.int .u16 a2_6).wf = true) (w2_7 : (Lit.int .u16 a2_7).wf = true) (w2_8 : IsRow .u8 w a2_8 len2_8 cap2_8 z2_8) (w2_9 : IsRow .u8 w a2_9 len2_9 cap2_9 z2_9) (w3_0 : (Lit.int .u16 a3_0).wf = true) (w3_1_0 : (Lit.int .u8 a3_1_0).wf = true) (w3_1_1 : (Lit.int .u8 a3_1_1).wf = true) (w3_1_2 : (Lit.int .u8 a3_1_2).wf = true) (w3_1_3 : (Lit.int .u8 a3_1_3).wf = true) (w3_1_4 : (Lit.int .u8 a3_1_4).wf = true) (w3_1_5 : (Lit.int .u8 a3_1_5).wf = true) (w3_2 : (Lit.int .u32 a3_2).wf = true) (w3_3_0 : (Lit.int .u8 a3_3_0).wf = true) (w3_3_1 : (Lit.int .u8 a3_3_1).wf = true) (w3_3_2 : (Lit.int .u8 a3_3_2).wf = true) (w3_3_3 : (Lit.int .u8 a3_3_3).wf = true) (w3_3_4 : (Lit.int .u8 a3_3_4).wf = true) (w3_3_5 : (Lit.int .u8 a3_3_5).wf = true) (w3_4 : (Lit.int .u32 a3_4).wf = true) (w4_0 : (Lit.int .u8 a4_0).wf = true) (w4_1 : (Lit.int .u16 a4_1).wf = true) (w4_4 : (Lit.int .u16 a4_4).wf = true) (w4_5 : (Lit.int .u8 a4_5).wf = true) (w4_6 : (Lit.int .u8 a4_6).wf = true) (w4_7 : (Lit.int .u32 a4_7).wf = true) (w4_8 : (Lit.int .u32 a4_8).wf = true) (w4_9 : IsRow .u8 w a4_9 len4_9 cap4_9 z4_9) (w4_10 : IsRow .u8 w a4_10 len4_10 cap4_10 z4_10) (w5 : (Lit.int .i64 a5).wf = true) :
    Calls Try.prog 6 #[.agg #[.int .u8 a0_0, .int .u8 a0_1, .int .u32 a0_2, .slice a0_3 len0_3 cap0_3], .agg #[.int .u16 a1_0, .int .u16 a1_1, .bool a1_2, .slice a1_3 len1_3 cap1_3], .agg #[.int .u16 a2_0, .int .u16 a2_1, .int .u32 a2_2, .int .u32 a2_3, .int .u8 a2_4, .int .u8 a2_5, .int .u16 a2_6, .int .u16 a2_7, .slice a2_8 len2_8 cap2_8, .slice a2_9 len2_9 cap2_9], .agg #[.int .u16 a3_0, .int .u8 a3_1_0, .int .u8 a3_1_1, .int .u8 a3_1_2, .int .u8 a3_1_3, .int .u8 a3_1_4, .int .u8 a3_1_5, .int .u32 a3_2, .int .u8 a3_3_0, .int .u8 a3_3_1, .int .u8 a3_3_2, .int .u8 a3_3_3, .int .u8 a3_3_4, .int .u8 a3_3_5, .int .u32 a3_4], .agg #[.int .u8 a4_0, .int .u16 a4_1, .bool a4_2, .bool a4_3, .int .u16 a4_4, .int .u8 a4_5, .int .u8 a4_6, .int .u32 a4_7, .int .u32 a4_8, .slice a4_9 len4_9 cap4_9, .slice a4_10 len4_10 cap4_10], .int .i64 a5] w fun e w' => e = .returned (.bool true) ∧ Below w.heap.size w w' := by
  exact RecvKinds_walk a0_0 a0_1 a0_2 a0_3 len0_3 cap0_3 z0_3 a1_0 a1_1 a1_2 a1_3 len1_3 cap1_3 z1_3 a2_0 a2_1 a2_2 a2_3 a2_4 a2_5 a2_6 a2_7 a2_8 len2_8 cap2_8 z2_8 a2_9 len2_9 cap2_9 z2_9 a3_0 a3_1_0 a3_1_1 a3_1_2 a3_1_3 a3_1_4 a3_1_5 a3_2 a3_3_0 a3_3_1 a3_3_2 a3_3_3 a3_3_4 a3_3_5 a3_4 a4_0 a4_1 a4_2 a4_3 a4_4 a4_5 a4_6 a4_7 a4_8 a4_9 len4_9 cap4_9 z4_9 a4_10 len4_10 cap4_10 z4_10 a5 w w0_0 w0_1 w0_2 w0_3 w1_0 w1_1 w1_3 w2_0 w2_1 w2_2 w2_3 w2_4 w2_5 w2_6 w2_7 w2_8 w2_9 w3_0 w3_1_0 w3_1_1 w3_1_2 w3_1_3 w3_1_4 w3_1_5 w3_2 w3_3_0 w3_3_1 w3_3_2 w3_3_3 w3_3_4 w3_3_5 w3_4 w4_0 w4_1 w4_4 w4_5 w4_6 w4_7 w4_8 w4_9 w4_10 w5

set_option maxRecDepth 100000 in
theorem lifted (os : Os) (started : os.Started) (H : Type) (enc : TypeId × Value → H) :
    ReturnsInHanded {} Try.checked os 6 .any (Rows.recvKindsSpec.pre6 enc Try.prog Try.f6 Rows.recvKindsRow.domain false) (Rows.recvKindsSpec.post enc Try.prog Try.f6 false true false false) := by
  refine returnsInHanded_of_change (C := Try.checked) own started (by kernel_rfl) Try.func6
    (ChangeSpec.witness6 (enc := enc) (C := Try.checked) false ⟨#[], #[.agg #[.int .u8 0, .int .u8 0, .int .u32 0, .slice none 0 0], .agg #[.int .u16 0, .int .u16 0, .bool false, .slice none 0 0], .agg #[.int .u16 0, .int .u16 0, .int .u32 0, .int .u32 0, .int .u8 0, .int .u8 0, .int .u16 0, .int .u16 0, .slice none 0 0, .slice none 0 0], .agg #[.int .u16 0, .int .u8 0, .int .u8 0, .int .u8 0, .int .u8 0, .int .u8 0, .int .u8 0, .int .u32 0, .int .u8 0, .int .u8 0, .int .u8 0, .int .u8 0, .int .u8 0, .int .u8 0, .int .u32 0], .agg #[.int .u8 0, .int .u16 0, .bool false, .bool false, .int .u16 0, .int .u8 0, .int .u8 0, .int .u32 0, .int .u32 0, .slice none 0 0, .slice none 0 0], .int .i64 0], []⟩ 8 (by kernel_rfl) (by kernel_rfl) (by kernel_rfl) (by kernel_rfl)) ?_
  intro W base args ds gs before hval0 hW hcnd _
  have hval : ∀ (j : Nat) t v, Try.f6.params[j]? = some t → args[j]? = some v → Value.okWide Try.prog W .any base t v := hval0
  have hW' := hW
  obtain ⟨p, q, hA0, hV, rfl, hfz, hnd⟩ := hW
  have hA : DataW.TrodAll enc Try.prog W 0 (fun _ => true) true Try.f6.params.toList args.toList ds p := hA0
  rw [Try.params6] at hA hval
  obtain ⟨v0, vs0, d0, ds0, p0, q0, hargs, rfl, rfl, h0, r0⟩ := trodAll_cons hA
  obtain ⟨v1, vs1, d1, ds1, p1, q1, rfl, rfl, rfl, h1, r1⟩ := trodAll_cons r0
  obtain ⟨v2, vs2, d2, ds2, p2, q2, rfl, rfl, rfl, h2, r2⟩ := trodAll_cons r1
  obtain ⟨v3, vs3, d3, ds3, p3, q3, rfl, rfl, rfl, h3, r3⟩ := trodAll_cons r2
  obtain ⟨v4, vs4, d4, ds4, p4, q4, rfl, rfl, rfl, h4, r4⟩ := trodAll_cons r3
  obtain ⟨v5, vs5, d5, ds5, p5, q5, rfl, rfl, rfl, h5, r5⟩ := trodAll_cons r4
  obtain ⟨rfl, rfl, rfl⟩ := trodAll_nil r5
  obtain rfl : args = #[v0, v1, v2, v3, v4, v5] := by cases args; simp_all
  obtain ⟨rfl, rfl⟩ := trodVars_none hV
  have k0 := h0
  have lt0 : ∀ x ∈ p0, x.block < W.heap.size := by obtain ⟨m, hm⟩ := k0; exact DataW.trod_lt m _ _ _ hm
  obtain ⟨a0_0, a0_1, a0_2, a0_3, len0_3, cap0_3, z0_3, w0_0, w0_1, w0_2, w0_3, rfl⟩ := open25 (hval 0 25 v0 rfl rfl) h0
  have k1 := h1
  have lt1 : ∀ x ∈ p1, x.block < W.heap.size := by obtain ⟨m, hm⟩ := k1; exact DataW.trod_lt m _ _ _ hm
  obtain ⟨a1_0, a1_1, a1_2, a1_3, len1_3, cap1_3, z1_3, w1_0, w1_1, w1_3, rfl⟩ := open53 (hval 1 53 v1 rfl rfl) h1
  have k2 := h2
  have lt2 : ∀ x ∈ p2, x.block < W.heap.size := by obtain ⟨m, hm⟩ := k2; exact DataW.trod_lt m _ _ _ hm
  obtain ⟨a2_0, a2_1, a2_2, a2_3, a2_4, a2_5, a2_6, a2_7, a2_8, len2_8, cap2_8, z2_8, a2_9, len2_9, cap2_9, z2_9, w2_0, w2_1, w2_2, w2_3, w2_4, w2_5, w2_6, w2_7, w2_8, w2_9, rfl⟩ := open59 (hval 2 59 v2 rfl rfl) h2
  have k3 := h3
  have lt3 : ∀ x ∈ p3, x.block < W.heap.size := by obtain ⟨m, hm⟩ := k3; exact DataW.trod_lt m _ _ _ hm
  obtain ⟨a3_0, a3_1_0, a3_1_1, a3_1_2, a3_1_3, a3_1_4, a3_1_5, a3_2, a3_3_0, a3_3_1, a3_3_2, a3_3_3, a3_3_4, a3_3_5, a3_4, w3_0, w3_1_0, w3_1_1, w3_1_2, w3_1_3, w3_1_4, w3_1_5, w3_2, w3_3_0, w3_3_1, w3_3_2, w3_3_3, w3_3_4, w3_3_5, w3_4, rfl⟩ := open68 (hval 3 68 v3 rfl rfl) h3
  have k4 := h4
  have lt4 : ∀ x ∈ p4, x.block < W.heap.size := by obtain ⟨m, hm⟩ := k4; exact DataW.trod_lt m _ _ _ hm
  obtain ⟨a4_0, a4_1, a4_2, a4_3, a4_4, a4_5, a4_6, a4_7, a4_8, a4_9, len4_9, cap4_9, z4_9, a4_10, len4_10, cap4_10, z4_10, w4_0, w4_1, w4_4, w4_5, w4_6, w4_7, w4_8, w4_9, w4_10, rfl⟩ := open38 (hval 4 38 v4 rfl rfl) h4
  obtain ⟨a5, rfl, rfl, rfl, w5⟩ := open_int Try.underlying3 (hval 5 3 v5 rfl rfl) h5
  clear hA0 hval0
  refine (walk a0_0 a0_1 a0_2 a0_3 len0_3 cap0_3 z0_3 a1_0 a1_1 a1_2 a1_3 len1_3 cap1_3 z1_3 a2_0 a2_1 a2_2 a2_3 a2_4 a2_5 a2_6 a2_7 a2_8 len2_8 cap2_8 z2_8 a2_9 len2_9 cap2_9 z2_9 a3_0 a3_1_0 a3_1_1 a3_1_2 a3_1_3 a3_1_4 a3_1_5 a3_2 a3_3_0 a3_3_1 a3_3_2 a3_3_3 a3_3_4 a3_3_5 a3_4 a4_0 a4_1 a4_2 a4_3 a4_4 a4_5 a4_6 a4_7 a4_8 a4_9 len4_9 cap4_9 z4_9 a4_10 len4_10 cap4_10 z4_10 a5 W w0_0 w0_1 w0_2 w0_3 w1_0 w1_1 w1_3 w2_0 w2_1 w2_2 w2_3 w2_4 w2_5 w2_6 w2_7 w2_8 w2_9 w3_0 w3_1_0 w3_1_1 w3_1_2 w3_1_3 w3_1_4 w3_1_5 w3_2 w3_3_0 w3_3_1 w3_3_2 w3_3_3 w3_3_4 w3_3_5 w3_4 w4_0 w4_1 w4_4 w4_5 w4_6 w4_7 w4_8 w4_9 w4_10 w5).mono fun e W' ⟨he, bel⟩ => ?_
  subst he
  exact ⟨_, rfl, _, _, _, [], _, [], hW', trodAll_mk1 (shut_bool Try.underlying4 _), (trodAll_cons_mk (Below.trod laidOut (by kernel_rfl) (of_decide_eq_true (by kernel_rfl)) k0 bel lt0) (trodAll_cons_mk (Below.trod laidOut (by kernel_rfl) (of_decide_eq_true (by kernel_rfl)) k1 bel lt1) (trodAll_cons_mk (Below.trod laidOut (by kernel_rfl) (of_decide_eq_true (by kernel_rfl)) k2 bel lt2) (trodAll_cons_mk (Below.trod laidOut (by kernel_rfl) (of_decide_eq_true (by kernel_rfl)) k3 bel lt3) (trodAll_cons_mk (Below.trod laidOut (by kernel_rfl) (of_decide_eq_true (by kernel_rfl)) k4 bel lt4) (trodAll_cons_mk (shut_int Try.underlying3 w5) trodAll_mk0)))))), rfl, bel.frame _, fun h => by cases h⟩

theorem over : Rows.recvKindsRow.holds Try.pinned (OpenSpec.ofChange Rows.recvKindsSpec) :=
  OpenClaim.holds_of_wide 6 Try.f6 rfl rfl rfl rfl rfl rfl rfl ⟨rfl, rfl, rfl, rfl, rfl⟩ rfl rfl rfl rfl rfl (by kernel_rfl) Try.func6 (by kernel_rfl)
    (of_decide_eq_true (by kernel_rfl)) (by unfold Func.isWrapper; first | (rw [if_pos (by decide +kernel)]; kernel_rfl) | (rw [if_neg (by decide +kernel)]; exact ⟨rfl, rfl⟩))
    (fun os started H enc _ => lifted os started H enc)

theorem proved : Rows.RecvKindsSaid := over
#print axioms proved
end Go.Proofs.Ytkoamiefombilaa.recvKinds
