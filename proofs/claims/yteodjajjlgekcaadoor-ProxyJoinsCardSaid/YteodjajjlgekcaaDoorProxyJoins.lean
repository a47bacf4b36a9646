/- Proved, as a card: for every input of the given statement on proxy.Open, Call, Greet, Refuse and Join (with what entry a flow is taken, how its backend is called and answered, and by which answer it is joined) the function of the statement returns true and leaves its arguments as they were; conditions: the package variable cookie.sizes holds what its initialiser gives it. -/
import Derived.Test.YteodjajjlgekcaaDoorRows
import Derived.WalkKit
import Derived.ProofKit
import Derived.OpenShut
import Derived.ShutString
import Derived.ChangeOld
import Derived.Below
import Derived.Lib.SmallJoins
import Derived.Test.YteodjajjlgekcaaDoorLaw38c
import Derived.LaidMore
import Derived.Stop.Joined
import Derived.SevenTiedAt
import Derived.Test.YteodjajjlgekcaaDoorTie
import Derived.Test.YteodjajjlgekcaaDoorCards
namespace Go.Proofs.YteodjajjlgekcaaDoor.proxyJoins
open Go.ChangeShapes Go.WideShapes Go.ChangeAt Go.RowKit
open Go.ChangeMaps (open_string shut_string)
set_option linter.unusedVariables false

theorem own : ownKnob Tryd.prog.godebug = none := by kernel_rfl
theorem laidOut : laidOutB Tryd.prog = true := by kernel_rfl

theorem gS : Tryd.prog.globalNamed "linkboy/cookie.sizes" = some 0 := by kernel_rfl
theorem door_met (os : Go.Os) (args : Array Value) : laidMetH Tryd.prog [("linkboy/cookie.sizes", Rows.laid_linkboy_cookie_sizes)] ((World.doorLaid Tryd.prog 14 os).forCall (fun _ _ => 0) ⟨#[], args, []⟩).memory :=
  laidMetH_of_parts3 (fuel := 8) (laidMet_of_run' 8 (by kernel_rfl) (by kernel_rfl)) (by kernel_rfl) (by kernel_rfl)
def IsRow (k : IntKind) (w : World) (a : Option Addr) (len cap : Nat) (zs : List Int) : Prop :=
  (a = none ∧ len = 0 ∧ cap = 0 ∧ zs = []) ∨
  ∃ x, a = some x ∧ len ≤ cap ∧ cap ≤ maxLen ∧ zs.length = cap ∧ (∀ i, i < zs.length → w.cell? (x.add i) = some (.int k (zs.getD i 0))) ∧ ∀ n ∈ zs, (Lit.int k n).wf = true

theorem cons_of {α : Type} {l : List α} {n : Nat} (h : l.length = n + 1) : ∃ c l1, l = c :: l1 ∧ l1.length = n := by
  cases l with
  | nil => cases h
  | cons c l => exact ⟨c, l, rfl, by simpa using h⟩
theorem cells25 : Tryd.prog.cellsOf 25 = 1 := by kernel_rfl
theorem cells26 : Tryd.prog.cellsOf 26 = 1 := by kernel_rfl
theorem cells5 : Tryd.prog.cellsOf 5 = 1 := by kernel_rfl
theorem cells28 : Tryd.prog.cellsOf 28 = 5 := by kernel_rfl
theorem cells42 : Tryd.prog.cellsOf 42 = 1 := by kernel_rfl
theorem cells44 : Tryd.prog.cellsOf 44 = 10 := by kernel_rfl
theorem cells3 : Tryd.prog.cellsOf 3 = 1 := by kernel_rfl
theorem cells4 : Tryd.prog.cellsOf 4 = 1 := by kernel_rfl
theorem cells55 : Tryd.prog.cellsOf 55 = 13 := by kernel_rfl
theorem okArray {P : Program} {w : World} {r : Reach} {base : Nat} {v : Value} {n : Nat} {e t : TypeId} (ht : P.underlying t = some (.array n e)) (h : Value.okWide P w r base t v) : ∃ cs, v = .agg cs ∧ cs.size = P.cellsOf t := by
  simp only [Value.okWide, ht] at h
  obtain ⟨cs, h1, h2, _⟩ := h
  exact ⟨cs, h1, h2⟩
theorem isRow_of {H : Type} {enc : TypeId × Value → H} {P : Program} {W : World} {t e : TypeId} {k : IntKind} {n : Nat} {a : Option Addr} {len cap : Nat} {y : DataW H × List MemPlace} (ht : P.underlying t = some (.slice e)) (he : P.underlying e = some (.int k)) (hc : P.cellsOf e = 1)
    (hf : DataW.trod enc P W 0 (fun _ => true) true n t [.slice a len cap] = some y) : ∃ zs, IsRow k W a len cap zs := by
  rcases open_ints ht he hc hf with ⟨hcs, _⟩ | ⟨x, l, c, zs, hcs, _, hl, hm, hz, _, hcell, hwz⟩
  · simp at hcs
    obtain ⟨rfl, rfl, rfl⟩ := hcs
    exact ⟨[], .inl ⟨rfl, rfl, rfl, rfl⟩⟩
  · simp at hcs
    obtain ⟨rfl, rfl, rfl⟩ := hcs
    exact ⟨zs, .inr ⟨_, rfl, hl, hm, by simpa using hz, hcell, hwz⟩⟩
theorem list5 {α : Type} (l : List α) (h : l.length = 5) : ∃ c0 c1 c2 c3 c4, l = [c0, c1, c2, c3, c4] := by
  obtain ⟨c0, l0, e0, h0⟩ := cons_of h
  obtain ⟨c1, l1, e1, h1⟩ := cons_of h0
  obtain ⟨c2, l2, e2, h2⟩ := cons_of h1
  obtain ⟨c3, l3, e3, h3⟩ := cons_of h2
  obtain ⟨c4, l4, e4, h4⟩ := cons_of h3
  have e5 := List.eq_nil_of_length_eq_zero h4
  subst e5 e4 e3 e2 e1 e0
  exact ⟨c0, c1, c2, c3, c4, rfl⟩
set_option maxRecDepth 100000 in
theorem open28 {H : Type} {enc : TypeId × Value → H} {W : World} {base : Nat} {v : Value} {d : DataW H} {p : List MemPlace} (hv : Value.okWide Tryd.prog W .any base 28 v) (h : DataW.Trod enc Tryd.prog W 0 (fun _ => true) true 28 v d p) :
    ∃ (ax_0 : Int) (ax_1 : Int) (ax_2 : Int) (ax_3 : Int) (ax_4 : Int), (Lit.int .u32 ax_0).wf = true ∧ (Lit.int .u32 ax_1).wf = true ∧ (Lit.int .u16 ax_2).wf = true ∧ (Lit.int .u16 ax_3).wf = true ∧ (Lit.int .u8 ax_4).wf = true ∧ v = .agg #[.int .u32 ax_0, .int .u32 ax_1, .int .u16 ax_2, .int .u16 ax_3, .int .u8 ax_4] := by
  obtain ⟨cs, rfl, hsz⟩ := okWide_struct Tryd.underlying28 hv
  rw [cells28] at hsz
  obtain ⟨l⟩ := cs
  have hsz2 : l.length = 5 := hsz
  obtain ⟨c0, c1, c2, c3, c4, rfl⟩ := list5 l hsz2
  obtain ⟨fuel, hf⟩ := h
  have hf : DataW.trod enc Tryd.prog W 0 (fun _ => true) true fuel 28 [c0, c1, c2, c3, c4] = some (d, p) := hf
  obtain ⟨xs0, n0, -, -, -, hl0, hx0⟩ := DataW.trod_struct Tryd.underlying28 hf
  obtain ⟨y0_0, hy0_0⟩ : ∃ y, xs0[0]? = some y := ⟨_, List.getElem?_eq_getElem (by rw [hl0]; decide)⟩
  have g0_0 : DataW.trod enc Tryd.prog W 0 (fun _ => true) true n0 25 [c0] = some y0_0 := by
    have g0 := hx0 0 _ rfl
    rw [hy0_0] at g0
    simpa [Value.cells, cells25] using g0
  obtain ⟨y0_1, hy0_1⟩ : ∃ y, xs0[1]? = some y := ⟨_, List.getElem?_eq_getElem (by rw [hl0]; decide)⟩
  have g0_1 : DataW.trod enc Tryd.prog W 0 (fun _ => true) true n0 25 [c1] = some y0_1 := by
    have g0 := hx0 1 _ rfl
    rw [hy0_1] at g0
    simpa [Value.cells, cells25] using g0
  obtain ⟨y0_2, hy0_2⟩ : ∃ y, xs0[2]? = some y := ⟨_, List.getElem?_eq_getElem (by rw [hl0]; decide)⟩
  have g0_2 : DataW.trod enc Tryd.prog W 0 (fun _ => true) true n0 26 [c2] = some y0_2 := by
    have g0 := hx0 2 _ rfl
    rw [hy0_2] at g0
    simpa [Value.cells, cells26] using g0
  obtain ⟨y0_3, hy0_3⟩ : ∃ y, xs0[3]? = some y := ⟨_, List.getElem?_eq_getElem (by rw [hl0]; decide)⟩
  have g0_3 : DataW.trod enc Tryd.prog W 0 (fun _ => true) true n0 26 [c3] = some y0_3 := by
    have g0 := hx0 3 _ rfl
    rw [hy0_3] at g0
    simpa [Value.cells, cells26] using g0
  obtain ⟨y0_4, hy0_4⟩ : ∃ y, xs0[4]? = some y := ⟨_, List.getElem?_eq_getElem (by rw [hl0]; decide)⟩
  have g0_4 : DataW.trod enc Tryd.prog W 0 (fun _ => true) true n0 5 [c4] = some y0_4 := by
    have g0 := hx0 4 _ rfl
    rw [hy0_4] at g0
    simpa [Value.cells, cells5] using g0
  clear hf hx0
  obtain ⟨ax_0, ex_0, -, wx_0⟩ := DataW.trod_int Tryd.underlying25 g0_0
  obtain rfl : c0 = .int .u32 ax_0 := by simpa using ex_0
  clear g0_0 ex_0
  obtain ⟨ax_1, ex_1, -, wx_1⟩ := DataW.trod_int Tryd.underlying25 g0_1
  obtain rfl : c1 = .int .u32 ax_1 := by simpa using ex_1
  clear g0_1 ex_1
  obtain ⟨ax_2, ex_2, -, wx_2⟩ := DataW.trod_int Tryd.underlying26 g0_2
  obtain rfl : c2 = .int .u16 ax_2 := by simpa using ex_2
  clear g0_2 ex_2
  obtain ⟨ax_3, ex_3, -, wx_3⟩ := DataW.trod_int Tryd.underlying26 g0_3
  obtain rfl : c3 = .int .u16 ax_3 := by simpa using ex_3
  clear g0_3 ex_3
  obtain ⟨ax_4, ex_4, -, wx_4⟩ := DataW.trod_int Tryd.underlying5 g0_4
  obtain rfl : c4 = .int .u8 ax_4 := by simpa using ex_4
  clear g0_4 ex_4
  exact ⟨ax_0, ax_1, ax_2, ax_3, ax_4, wx_0, wx_1, wx_2, wx_3, wx_4, rfl⟩
theorem list10 {α : Type} (l : List α) (h : l.length = 10) : ∃ c0 c1 c2 c3 c4 c5 c6 c7 c8 c9, l = [c0, c1, c2, c3, c4, c5, c6, c7, c8, c9] := by
  obtain ⟨c0, l0, e0, h0⟩ := cons_of h
  obtain ⟨c1, l1, e1, h1⟩ := cons_of h0
  obtain ⟨c2, l2, e2, h2⟩ := cons_of h1
  obtain ⟨c3, l3, e3, h3⟩ := cons_of h2
  obtain ⟨c4, l4, e4, h4⟩ := cons_of h3
  obtain ⟨c5, l5, e5, h5⟩ := cons_of h4
  obtain ⟨c6, l6, e6, h6⟩ := cons_of h5
  obtain ⟨c7, l7, e7, h7⟩ := cons_of h6
  obtain ⟨c8, l8, e8, h8⟩ := cons_of h7
  obtain ⟨c9, l9, e9, h9⟩ := cons_of h8
  have e10 := List.eq_nil_of_length_eq_zero h9
  subst e10 e9 e8 e7 e6 e5 e4 e3 e2 e1 e0
  exact ⟨c0, c1, c2, c3, c4, c5, c6, c7, c8, c9, rfl⟩
set_option maxRecDepth 100000 in
theorem open44 {H : Type} {enc : TypeId × Value → H} {W : World} {base : Nat} {v : Value} {d : DataW H} {p : List MemPlace} (hv : Value.okWide Tryd.prog W .any base 44 v) (h : DataW.Trod enc Tryd.prog W 0 (fun _ => true) true 44 v d p) :
    ∃ (ax_0 : Int) (ax_1 : Int) (ax_2 : Int) (ax_3 : Int) (ax_4 : Int) (ax_5 : Int) (ax_6 : Int) (ax_7 : Int) (ax_8 : Option Addr) (lenx_8 capx_8 : Nat) (zx_8 : List Int) (ax_9 : Option Addr) (lenx_9 capx_9 : Nat) (zx_9 : List Int), (Lit.int .u16 ax_0).wf = true ∧ (Lit.int .u16 ax_1).wf = true ∧ (Lit.int .u32 ax_2).wf = true ∧ (Lit.int .u32 ax_3).wf = true ∧ (Lit.int .u8 ax_4).wf = true ∧ (Lit.int .u8 ax_5).wf = true ∧ (Lit.int .u16 ax_6).wf = true ∧ (Lit.int .u16 ax_7).wf = true ∧ IsRow .u8 W ax_8 lenx_8 capx_8 zx_8 ∧ IsRow .u8 W ax_9 lenx_9 capx_9 zx_9 ∧ v = .agg #[.int .u16 ax_0, .int .u16 ax_1, .int .u32 ax_2, .int .u32 ax_3, .int .u8 ax_4, .int .u8 ax_5, .int .u16 ax_6, .int .u16 ax_7, .slice ax_8 lenx_8 capx_8, .slice ax_9 lenx_9 capx_9] := by
  obtain ⟨cs, rfl, hsz⟩ := okWide_struct Tryd.underlying44 hv
  rw [cells44] at hsz
  obtain ⟨l⟩ := cs
  have hsz2 : l.length = 10 := hsz
  obtain ⟨c0, c1, c2, c3, c4, c5, c6, c7, c8, c9, rfl⟩ := list10 l hsz2
  obtain ⟨fuel, hf⟩ := h
  have hf : DataW.trod enc Tryd.prog W 0 (fun _ => true) true fuel 44 [c0, c1, c2, c3, c4, c5, c6, c7, c8, c9] = some (d, p) := hf
  obtain ⟨xs1, n1, -, -, -, hl1, hx1⟩ := DataW.trod_struct Tryd.underlying44 hf
  obtain ⟨y1_0, hy1_0⟩ : ∃ y, xs1[0]? = some y := ⟨_, List.getElem?_eq_getElem (by rw [hl1]; decide)⟩
  have g1_0 : DataW.trod enc Tryd.prog W 0 (fun _ => true) true n1 26 [c0] = some y1_0 := by
    have g0 := hx1 0 _ rfl
    rw [hy1_0] at g0
    simpa [Value.cells, cells26] using g0
  obtain ⟨y1_1, hy1_1⟩ : ∃ y, xs1[1]? = some y := ⟨_, List.getElem?_eq_getElem (by rw [hl1]; decide)⟩
  have g1_1 : DataW.trod enc Tryd.prog W 0 (fun _ => true) true n1 26 [c1] = some y1_1 := by
    have g0 := hx1 1 _ rfl
    rw [hy1_1] at g0
    simpa [Value.cells, cells26] using g0
  obtain ⟨y1_2, hy1_2⟩ : ∃ y, xs1[2]? = some y := ⟨_, List.getElem?_eq_getElem (by rw [hl1]; decide)⟩
  have g1_2 : DataW.trod enc Tryd.prog W 0 (fun _ => true) true n1 25 [c2] = some y1_2 := by
    have g0 := hx1 2 _ rfl
    rw [hy1_2] at g0
    simpa [Value.cells, cells25] using g0
  obtain ⟨y1_3, hy1_3⟩ : ∃ y, xs1[3]? = some y := ⟨_, List.getElem?_eq_getElem (by rw [hl1]; decide)⟩
  have g1_3 : DataW.trod enc Tryd.prog W 0 (fun _ => true) true n1 25 [c3] = some y1_3 := by
    have g0 := hx1 3 _ rfl
    rw [hy1_3] at g0
    simpa [Value.cells, cells25] using g0
  obtain ⟨y1_4, hy1_4⟩ : ∃ y, xs1[4]? = some y := ⟨_, List.getElem?_eq_getElem (by rw [hl1]; decide)⟩
  have g1_4 : DataW.trod enc Tryd.prog W 0 (fun _ => true) true n1 5 [c4] = some y1_4 := by
    have g0 := hx1 4 _ rfl
    rw [hy1_4] at g0
    simpa [Value.cells, cells5] using g0
  obtain ⟨y1_5, hy1_5⟩ : ∃ y, xs1[5]? = some y := ⟨_, List.getElem?_eq_getElem (by rw [hl1]; decide)⟩
  have g1_5 : DataW.trod enc Tryd.prog W 0 (fun _ => true) true n1 5 [c5] = some y1_5 := by
    have g0 := hx1 5 _ rfl
    rw [hy1_5] at g0
    simpa [Value.cells, cells5] using g0
  obtain ⟨y1_6, hy1_6⟩ : ∃ y, xs1[6]? = some y := ⟨_, List.getElem?_eq_getElem (by rw [hl1]; decide)⟩
  have g1_6 : DataW.trod enc Tryd.prog W 0 (fun _ => true) true n1 26 [c6] = some y1_6 := by
    have g0 := hx1 6 _ rfl
    rw [hy1_6] at g0
    simpa [Value.cells, cells26] using g0
  obtain ⟨y1_7, hy1_7⟩ : ∃ y, xs1[7]? = some y := ⟨_, List.getElem?_eq_getElem (by rw [hl1]; decide)⟩
  have g1_7 : DataW.trod enc Tryd.prog W 0 (fun _ => true) true n1 26 [c7] = some y1_7 := by
    have g0 := hx1 7 _ rfl
    rw [hy1_7] at g0
    simpa [Value.cells, cells26] using g0
  obtain ⟨y1_8, hy1_8⟩ : ∃ y, xs1[8]? = some y := ⟨_, List.getElem?_eq_getElem (by rw [hl1]; decide)⟩
  have g1_8 : DataW.trod enc Tryd.prog W 0 (fun _ => true) true n1 42 [c8] = some y1_8 := by
    have g0 := hx1 8 _ rfl
    rw [hy1_8] at g0
    simpa [Value.cells, cells42] using g0
  obtain ⟨y1_9, hy1_9⟩ : ∃ y, xs1[9]? = some y := ⟨_, List.getElem?_eq_getElem (by rw [hl1]; decide)⟩
  have g1_9 : DataW.trod enc Tryd.prog W 0 (fun _ => true) true n1 42 [c9] = some y1_9 := by
    have g0 := hx1 9 _ rfl
    rw [hy1_9] at g0
    simpa [Value.cells, cells42] using g0
  clear hf hx1
  obtain ⟨ax_0, ex_0, -, wx_0⟩ := DataW.trod_int Tryd.underlying26 g1_0
  obtain rfl : c0 = .int .u16 ax_0 := by simpa using ex_0
  clear g1_0 ex_0
  obtain ⟨ax_1, ex_1, -, wx_1⟩ := DataW.trod_int Tryd.underlying26 g1_1
  obtain rfl : c1 = .int .u16 ax_1 := by simpa using ex_1
  clear g1_1 ex_1
  obtain ⟨ax_2, ex_2, -, wx_2⟩ := DataW.trod_int Tryd.underlying25 g1_2
  obtain rfl : c2 = .int .u32 ax_2 := by simpa using ex_2
  clear g1_2 ex_2
  obtain ⟨ax_3, ex_3, -, wx_3⟩ := DataW.trod_int Tryd.underlying25 g1_3
  obtain rfl : c3 = .int .u32 ax_3 := by simpa using ex_3
  clear g1_3 ex_3
  obtain ⟨ax_4, ex_4, -, wx_4⟩ := DataW.trod_int Tryd.underlying5 g1_4
  obtain rfl : c4 = .int .u8 ax_4 := by simpa using ex_4
  clear g1_4 ex_4
  obtain ⟨ax_5, ex_5, -, wx_5⟩ := DataW.trod_int Tryd.underlying5 g1_5
  obtain rfl : c5 = .int .u8 ax_5 := by simpa using ex_5
  clear g1_5 ex_5
  obtain ⟨ax_6, ex_6, -, wx_6⟩ := DataW.trod_int Tryd.underlying26 g1_6
  obtain rfl : c6 = .int .u16 ax_6 := by simpa using ex_6
  clear g1_6 ex_6
  obtain ⟨ax_7, ex_7, -, wx_7⟩ := DataW.trod_int Tryd.underlying26 g1_7
  obtain rfl : c7 = .int .u16 ax_7 := by simpa using ex_7
  clear g1_7 ex_7
  obtain ⟨ax_8, lenx_8, capx_8, ex_8⟩ := Go.Joins.slice_form Tryd.underlying42 g1_8
  obtain rfl : c8 = .slice ax_8 lenx_8 capx_8 := by simpa using ex_8
  obtain ⟨zx_8, wx_8⟩ := isRow_of Tryd.underlying42 Tryd.underlying5 (by kernel_rfl) g1_8
  clear g1_8 ex_8
  obtain ⟨ax_9, lenx_9, capx_9, ex_9⟩ := Go.Joins.slice_form Tryd.underlying42 g1_9
  obtain rfl : c9 = .slice ax_9 lenx_9 capx_9 := by simpa using ex_9
  obtain ⟨zx_9, wx_9⟩ := isRow_of Tryd.underlying42 Tryd.underlying5 (by kernel_rfl) g1_9
  clear g1_9 ex_9
  exact ⟨ax_0, ax_1, ax_2, ax_3, ax_4, ax_5, ax_6, ax_7, ax_8, lenx_8, capx_8, zx_8, ax_9, lenx_9, capx_9, zx_9, wx_0, wx_1, wx_2, wx_3, wx_4, wx_5, wx_6, wx_7, wx_8, wx_9, rfl⟩
theorem list13 {α : Type} (l : List α) (h : l.length = 13) : ∃ c0 c1 c2 c3 c4 c5 c6 c7 c8 c9 c10 c11 c12, l = [c0, c1, c2, c3, c4, c5, c6, c7, c8, c9, c10, c11, c12] := by
  obtain ⟨c0, l0, e0, h0⟩ := cons_of h
  obtain ⟨c1, l1, e1, h1⟩ := cons_of h0
  obtain ⟨c2, l2, e2, h2⟩ := cons_of h1
  obtain ⟨c3, l3, e3, h3⟩ := cons_of h2
  obtain ⟨c4, l4, e4, h4⟩ := cons_of h3
  obtain ⟨c5, l5, e5, h5⟩ := cons_of h4
  obtain ⟨c6, l6, e6, h6⟩ := cons_of h5
  obtain ⟨c7, l7, e7, h7⟩ := cons_of h6
  obtain ⟨c8, l8, e8, h8⟩ := cons_of h7
  obtain ⟨c9, l9, e9, h9⟩ := cons_of h8
  obtain ⟨c10, l10, e10, h10⟩ := cons_of h9
  obtain ⟨c11, l11, e11, h11⟩ := cons_of h10
  obtain ⟨c12, l12, e12, h12⟩ := cons_of h11
  have e13 := List.eq_nil_of_length_eq_zero h12
  subst e13 e12 e11 e10 e9 e8 e7 e6 e5 e4 e3 e2 e1 e0
  exact ⟨c0, c1, c2, c3, c4, c5, c6, c7, c8, c9, c10, c11, c12, rfl⟩
set_option maxRecDepth 100000 in
theorem open55 {H : Type} {enc : TypeId × Value → H} {W : World} {base : Nat} {v : Value} {d : DataW H} {p : List MemPlace} (hv : Value.okWide Tryd.prog W .any base 55 v) (h : DataW.Trod enc Tryd.prog W 0 (fun _ => true) true 55 v d p) :
    ∃ (ax_0_0 : Int) (ax_0_1 : Int) (ax_0_2 : Int) (ax_0_3 : Int) (ax_0_4 : Int) (ax_1 : Int) (ax_2 : Int) (ax_3 : Int) (ax_4 : Bool) (ax_5 : Bool) (ax_6 : Int) (ax_7 : Int) (ax_8 : Int), (Lit.int .u32 ax_0_0).wf = true ∧ (Lit.int .u32 ax_0_1).wf = true ∧ (Lit.int .u16 ax_0_2).wf = true ∧ (Lit.int .u16 ax_0_3).wf = true ∧ (Lit.int .u8 ax_0_4).wf = true ∧ (Lit.int .i64 ax_1).wf = true ∧ (Lit.int .i64 ax_2).wf = true ∧ (Lit.int .i64 ax_3).wf = true ∧ (Lit.int .u16 ax_6).wf = true ∧ (Lit.int .u32 ax_7).wf = true ∧ (Lit.int .u32 ax_8).wf = true ∧ v = .agg #[.int .u32 ax_0_0, .int .u32 ax_0_1, .int .u16 ax_0_2, .int .u16 ax_0_3, .int .u8 ax_0_4, .int .i64 ax_1, .int .i64 ax_2, .int .i64 ax_3, .bool ax_4, .bool ax_5, .int .u16 ax_6, .int .u32 ax_7, .int .u32 ax_8] := by
  obtain ⟨cs, rfl, hsz⟩ := okWide_struct Tryd.underlying55 hv
  rw [cells55] at hsz
  obtain ⟨l⟩ := cs
  have hsz2 : l.length = 13 := hsz
  obtain ⟨c0, c1, c2, c3, c4, c5, c6, c7, c8, c9, c10, c11, c12, rfl⟩ := list13 l hsz2
  obtain ⟨fuel, hf⟩ := h
  have hf : DataW.trod enc Tryd.prog W 0 (fun _ => true) true fuel 55 [c0, c1, c2, c3, c4, c5, c6, c7, c8, c9, c10, c11, c12] = some (d, p) := hf
  obtain ⟨xs2, n2, -, -, -, hl2, hx2⟩ := DataW.trod_struct Tryd.underlying55 hf
  obtain ⟨y2_0, hy2_0⟩ : ∃ y, xs2[0]? = some y := ⟨_, List.getElem?_eq_getElem (by rw [hl2]; decide)⟩
  have g2_0 : DataW.trod enc Tryd.prog W 0 (fun _ => true) true n2 28 [c0, c1, c2, c3, c4] = some y2_0 := by
    have g0 := hx2 0 _ rfl
    rw [hy2_0] at g0
    simpa [Value.cells, cells28] using g0
  obtain ⟨y2_1, hy2_1⟩ : ∃ y, xs2[1]? = some y := ⟨_, List.getElem?_eq_getElem (by rw [hl2]; decide)⟩
  have g2_1 : DataW.trod enc Tryd.prog W 0 (fun _ => true) true n2 3 [c5] = some y2_1 := by
    have g0 := hx2 1 _ rfl
    rw [hy2_1] at g0
    simpa [Value.cells, cells3] using g0
  obtain ⟨y2_2, hy2_2⟩ : ∃ y, xs2[2]? = some y := ⟨_, List.getElem?_eq_getElem (by rw [hl2]; decide)⟩
  have g2_2 : DataW.trod enc Tryd.prog W 0 (fun _ => true) true n2 3 [c6] = some y2_2 := by
    have g0 := hx2 2 _ rfl
    rw [hy2_2] at g0
    simpa [Value.cells, cells3] using g0
  obtain ⟨y2_3, hy2_3⟩ : ∃ y, xs2[3]? = some y := ⟨_, List.getElem?_eq_getElem (by rw [hl2]; decide)⟩
  have g2_3 : DataW.trod enc Tryd.prog W 0 (fun _ => true) true n2 3 [c7] = some y2_3 := by
    have g0 := hx2 3 _ rfl
    rw [hy2_3] at g0
    simpa [Value.cells, cells3] using g0
  obtain ⟨y2_4, hy2_4⟩ : ∃ y, xs2[4]? = some y := ⟨_, List.getElem?_eq_getElem (by rw [hl2]; decide)⟩
  have g2_4 : DataW.trod enc Tryd.prog W 0 (fun _ => true) true n2 4 [c8] = some y2_4 := by
    have g0 := hx2 4 _ rfl
    rw [hy2_4] at g0
    simpa [Value.cells, cells4] using g0
  obtain ⟨y2_5, hy2_5⟩ : ∃ y, xs2[5]? = some y := ⟨_, List.getElem?_eq_getElem (by rw [hl2]; decide)⟩
  have g2_5 : DataW.trod enc Tryd.prog W 0 (fun _ => true) true n2 4 [c9] = some y2_5 := by
    have g0 := hx2 5 _ rfl
    rw [hy2_5] at g0
    simpa [Value.cells, cells4] using g0
  obtain ⟨y2_6, hy2_6⟩ : ∃ y, xs2[6]? = some y := ⟨_, List.getElem?_eq_getElem (by rw [hl2]; decide)⟩
  have g2_6 : DataW.trod enc Tryd.prog W 0 (fun _ => true) true n2 26 [c10] = some y2_6 := by
    have g0 := hx2 6 _ rfl
    rw [hy2_6] at g0
    simpa [Value.cells, cells26] using g0
  obtain ⟨y2_7, hy2_7⟩ : ∃ y, xs2[7]? = some y := ⟨_, List.getElem?_eq_getElem (by rw [hl2]; decide)⟩
  have g2_7 : DataW.trod enc Tryd.prog W 0 (fun _ => true) true n2 25 [c11] = some y2_7 := by
    have g0 := hx2 7 _ rfl
    rw [hy2_7] at g0
    simpa [Value.cells, cells25] using g0
  obtain ⟨y2_8, hy2_8⟩ : ∃ y, xs2[8]? = some y := ⟨_, List.getElem?_eq_getElem (by rw [hl2]; decide)⟩
  have g2_8 : DataW.trod enc Tryd.prog W 0 (fun _ => true) true n2 25 [c12] = some y2_8 := by
    have g0 := hx2 8 _ rfl
    rw [hy2_8] at g0
    simpa [Value.cells, cells25] using g0
  clear hf hx2
  obtain ⟨xs3, n3, -, -, -, hl3, hx3⟩ := DataW.trod_struct Tryd.underlying28 g2_0
  obtain ⟨y3_0, hy3_0⟩ : ∃ y, xs3[0]? = some y := ⟨_, List.getElem?_eq_getElem (by rw [hl3]; decide)⟩
  have g3_0 : DataW.trod enc Tryd.prog W 0 (fun _ => true) true n3 25 [c0] = some y3_0 := by
    have g0 := hx3 0 _ rfl
    rw [hy3_0] at g0
    simpa [Value.cells, cells25] using g0
  obtain ⟨y3_1, hy3_1⟩ : ∃ y, xs3[1]? = some y := ⟨_, List.getElem?_eq_getElem (by rw [hl3]; decide)⟩
  have g3_1 : DataW.trod enc Tryd.prog W 0 (fun _ => true) true n3 25 [c1] = some y3_1 := by
    have g0 := hx3 1 _ rfl
    rw [hy3_1] at g0
    simpa [Value.cells, cells25] using g0
  obtain ⟨y3_2, hy3_2⟩ : ∃ y, xs3[2]? = some y := ⟨_, List.getElem?_eq_getElem (by rw [hl3]; decide)⟩
  have g3_2 : DataW.trod enc Tryd.prog W 0 (fun _ => true) true n3 26 [c2] = some y3_2 := by
    have g0 := hx3 2 _ rfl
    rw [hy3_2] at g0
    simpa [Value.cells, cells26] using g0
  obtain ⟨y3_3, hy3_3⟩ : ∃ y, xs3[3]? = some y := ⟨_, List.getElem?_eq_getElem (by rw [hl3]; decide)⟩
  have g3_3 : DataW.trod enc Tryd.prog W 0 (fun _ => true) true n3 26 [c3] = some y3_3 := by
    have g0 := hx3 3 _ rfl
    rw [hy3_3] at g0
    simpa [Value.cells, cells26] using g0
  obtain ⟨y3_4, hy3_4⟩ : ∃ y, xs3[4]? = some y := ⟨_, List.getElem?_eq_getElem (by rw [hl3]; decide)⟩
  have g3_4 : DataW.trod enc Tryd.prog W 0 (fun _ => true) true n3 5 [c4] = some y3_4 := by
    have g0 := hx3 4 _ rfl
    rw [hy3_4] at g0
    simpa [Value.cells, cells5] using g0
  clear g2_0 hx3
  obtain ⟨ax_0_0, ex_0_0, -, wx_0_0⟩ := DataW.trod_int Tryd.underlying25 g3_0
  obtain rfl : c0 = .int .u32 ax_0_0 := by simpa using ex_0_0
  clear g3_0 ex_0_0
  obtain ⟨ax_0_1, ex_0_1, -, wx_0_1⟩ := DataW.trod_int Tryd.underlying25 g3_1
  obtain rfl : c1 = .int .u32 ax_0_1 := by simpa using ex_0_1
  clear g3_1 ex_0_1
  obtain ⟨ax_0_2, ex_0_2, -, wx_0_2⟩ := DataW.trod_int Tryd.underlying26 g3_2
  obtain rfl : c2 = .int .u16 ax_0_2 := by simpa using ex_0_2
  clear g3_2 ex_0_2
  obtain ⟨ax_0_3, ex_0_3, -, wx_0_3⟩ := DataW.trod_int Tryd.underlying26 g3_3
  obtain rfl : c3 = .int .u16 ax_0_3 := by simpa using ex_0_3
  clear g3_3 ex_0_3
  obtain ⟨ax_0_4, ex_0_4, -, wx_0_4⟩ := DataW.trod_int Tryd.underlying5 g3_4
  obtain rfl : c4 = .int .u8 ax_0_4 := by simpa using ex_0_4
  clear g3_4 ex_0_4
  obtain ⟨ax_1, ex_1, -, wx_1⟩ := DataW.trod_int Tryd.underlying3 g2_1
  obtain rfl : c5 = .int .i64 ax_1 := by simpa using ex_1
  clear g2_1 ex_1
  obtain ⟨ax_2, ex_2, -, wx_2⟩ := DataW.trod_int Tryd.underlying3 g2_2
  obtain rfl : c6 = .int .i64 ax_2 := by simpa using ex_2
  clear g2_2 ex_2
  obtain ⟨ax_3, ex_3, -, wx_3⟩ := DataW.trod_int Tryd.underlying3 g2_3
  obtain rfl : c7 = .int .i64 ax_3 := by simpa using ex_3
  clear g2_3 ex_3
  obtain ⟨ax_4, ex_4, -⟩ := DataW.trod_bool Tryd.underlying4 g2_4
  obtain rfl : c8 = .bool ax_4 := by simpa using ex_4
  clear g2_4 ex_4
  obtain ⟨ax_5, ex_5, -⟩ := DataW.trod_bool Tryd.underlying4 g2_5
  obtain rfl : c9 = .bool ax_5 := by simpa using ex_5
  clear g2_5 ex_5
  obtain ⟨ax_6, ex_6, -, wx_6⟩ := DataW.trod_int Tryd.underlying26 g2_6
  obtain rfl : c10 = .int .u16 ax_6 := by simpa using ex_6
  clear g2_6 ex_6
  obtain ⟨ax_7, ex_7, -, wx_7⟩ := DataW.trod_int Tryd.underlying25 g2_7
  obtain rfl : c11 = .int .u32 ax_7 := by simpa using ex_7
  clear g2_7 ex_7
  obtain ⟨ax_8, ex_8, -, wx_8⟩ := DataW.trod_int Tryd.underlying25 g2_8
  obtain rfl : c12 = .int .u32 ax_8 := by simpa using ex_8
  clear g2_8 ex_8
  exact ⟨ax_0_0, ax_0_1, ax_0_2, ax_0_3, ax_0_4, ax_1, ax_2, ax_3, ax_4, ax_5, ax_6, ax_7, ax_8, wx_0_0, wx_0_1, wx_0_2, wx_0_3, wx_0_4, wx_1, wx_2, wx_3, wx_6, wx_7, wx_8, rfl⟩

theorem walk (a0_0 : Int) (a0_1 : Int) (a0_2 : Int) (a0_3 : Int) (a0_4 : Int) (a1 : Int) (a2 : Int) (a3 : Int) (a4_0 : Int) (a4_1 : Int) (a4_2 : Int) (a4_3 : Int) (a4_4 : Int) (a4_5 : Int) (a4_6 : Int) (a4_7 : Int) (a4_8 : Option Addr) (len4_8 cap4_8 : Nat) (z4_8 : List Int) (a4_9 : Option Addr) (len4_9 cap4_9 : Nat) (z4_9 : List Int) (a5_0_0 : Int) (a5_0_1 : Int) (a5_0_2 : Int) (a5_0_3 : Int) (a5_0_4 : Int) (a5_1 : Int) (a5_2 : Int) (a5_3 : Int) (a5_4 : Bool) (a5_5 : Bool) (a5_6 : Int) (a5_7 : Int) (a5_8 : Int) (a6 : Int) (w : World) (w0_0 : (Lit.int .u32 a0_0).wf = true) (w0_1 : (Lit.int .u32 a0_1).wf = true) (w0_2 : (Lit.int .u16 a0_2).wf = true) (w0_3 : (Lit.int .u16 a0_3).wf = true) (w0_4 : (Lit.int .u8 a0_4).wf = true) (w1 : (Lit.int .i64 a1).wf = true) (w2 : (Lit.int .u16 a2).wf = true) (w3 : (Lit.int .u16 a3).wf = true) (w4_0 : (Lit.int .u16 a4_0).wf = true) (w4_1 : (Lit.int .u16 a4_1).wf = true) (w4_2 : (Lit.int .u32 a4_2).wf = true) (w4_3 : (Lit.int .u32 a4_3).wf = true) (w4_4 : (Lit.int .u8 a4_4).wf = true) (w4_5 : (Lit.int .u8 a4_5).wf = true) (w4_6 : (Lit.int .u16 a4_6).wf = true) (w4_7 : (Lit.int .u16 a4_7).wf = true) (w4_8 : IsRow .u8 w a4_8 len4_8 cap4_8 z4_8) (w4_9 : IsRow .u8 w a4_9 len4_9 cap4_9 z4_9) (w5_0_0 : (Lit.int .u32 a5_0_0).wf = true) (w5_0_1 : (Lit.int .u32 a5_0_1).wf = true) (w5_0_2 : (Lit.int .u16 a5_0_2).wf = true) (w5_0_3 : (Lit.int .u16 a5_0_3).wf = true) (w5_0_4 : (Lit.int .u8 a5_0_4).wf = true) (w5_1 : (Lit.int .i64 a5_1).wf = true) (w5_2 : (Lit.int .i64 a5_2).wf = true) (w5_3 : (Lit.int .i64 a5_3).wf = true) (w5_6 : (Lit.int .u16 a5_6).wf = true) (w5_7 : (Lit.int .u32 a5_7).wf = true) (w5_8 : (Lit.int .u32 a5_8).wf = true) (w6 : (Lit.int .i64 a6).wf = true) (hS : SZ w) :
    Calls Tryd.prog 7 #[.agg #[.int .u32 a0_0, .int .u32 a0_1, .int .u16 a0_2, .int .u16 a0_3, .int .u8 a0_4], .int .i64 a1, .int .u16 a2, .int .u16 a3, .agg #[.int .u16 a4_0, .int .u16 a4_1, .int .u32 a4_2, .int .u32 a4_3, .int .u8 a4_4, .int .u8 a4_5, .int .u16 a4_6, .int .u16 a4_7, .slice a4_8 len4_8 cap4_8, .slice a4_9 len4_9 cap4_9], .agg #[.int .u32 a5_0_0, .int .u32 a5_0_1, .int .u16 a5_0_2, .int .u16 a5_0_3, .int .u8 a5_0_4, .int .i64 a5_1, .int .i64 a5_2, .int .i64 a5_3, .bool a5_4, .bool a5_5, .int .u16 a5_6, .int .u32 a5_7, .int .u32 a5_8], .int .i64 a6] w fun e w' => e = .returned (.bool true) ∧ Below w.heap.size w w' := by
  exact ProxyJoins_walk a0_0 a0_1 a0_2 a0_3 a0_4 a1 a2 a3 a4_0 a4_1 a4_2 a4_3 a4_4 a4_5 a4_6 a4_7 a4_8 len4_8 cap4_8 z4_8 a4_9 len4_9 cap4_9 z4_9 a5_0_0 a5_0_1 a5_0_2 a5_0_3 a5_0_4 a5_1 a5_2 a5_3 a5_4 a5_5 a5_6 a5_7 a5_8 a6 w w0_0 w0_1 w0_2 w0_3 w0_4 w1 w2 w3 w4_0 w4_1 w4_2 w4_3 w4_4 w4_5 w4_6 w4_7 w4_8 w4_9 w5_0_0 w5_0_1 w5_0_2 w5_0_3 w5_0_4 w5_1 w5_2 w5_3 w5_6 w5_7 w5_8 w6 hS

set_option maxRecDepth 100000 in
theorem lifted (os : Go.Os) (started : os.Started) (H : Type) (enc : TypeId × Value → H) :
    ReturnsInHanded {} Tryd.checked os 7 .any (fun w args => (Rows.proxyJoinsSpec.pre enc Tryd.prog Tryd.f7 [] false w args ∧ laidMetH Tryd.prog [("linkboy/cookie.sizes", Rows.laid_linkboy_cookie_sizes)] w) ∧ sizedMet enc Tryd.prog Tryd.f7 (OpenSpec.ofChange Rows.proxyJoinsSpec) false w args) (Rows.proxyJoinsSpec.post enc Tryd.prog Tryd.f7 false true false false) := by
  refine returnsInHanded_of_change_and (C := Tryd.checked) (X := fun w _ => laidMetH Tryd.prog [("linkboy/cookie.sizes", Rows.laid_linkboy_cookie_sizes)] w) (fun _ _ _ hh h => h.of_heap hh) own started (by kernel_rfl) Tryd.func7
    (ChangeSpec.witness_shaped (enc := enc) (C := Tryd.checked) (os := os) (X := fun w _ => laidMetH Tryd.prog [("linkboy/cookie.sizes", Rows.laid_linkboy_cookie_sizes)] w) false (World.doorLaid Tryd.prog 14 os) #[.agg #[.int .u32 0, .int .u32 0, .int .u16 0, .int .u16 0, .int .u8 0], .int .i64 0, .int .u16 0, .int .u16 0, .agg #[.int .u16 0, .int .u16 0, .int .u32 0, .int .u32 0, .int .u8 0, .int .u8 0, .int .u16 0, .int .u16 0, .slice none 0 0, .slice none 0 0], .agg #[.int .u32 0, .int .u32 0, .int .u16 0, .int .u16 0, .int .u8 0, .int .i64 0, .int .i64 0, .int .i64 0, .bool false, .bool false, .int .u16 0, .int .u32 0, .int .u32 0], .int .i64 0] 8 rfl (World.shaped_of_RefB (by kernel_rfl) (by kernel_rfl)) (by kernel_rfl) (by kernel_rfl) (by kernel_rfl) (door_met os _)) ?_
  intro W base args ds gs before hval0 hW _ _ hL _
  have hS : SZ W := of_laid gS hL
  have hval : ∀ (j : Nat) t v, Tryd.f7.params[j]? = some t → args[j]? = some v → Value.okWide Tryd.prog W .any base t v := hval0
  have hW' := hW
  obtain ⟨p, q, hA0, hV, rfl, hfz, hnd⟩ := hW
  have hA : DataW.TrodAll enc Tryd.prog W 0 (fun _ => true) true Tryd.f7.params.toList args.toList ds p := hA0
  rw [Tryd.params7] at hA hval
  obtain ⟨v0, vs0, d0, ds0, p0, q0, hargs, rfl, rfl, h0, r0⟩ := trodAll_cons hA
  obtain ⟨v1, vs1, d1, ds1, p1, q1, rfl, rfl, rfl, h1, r1⟩ := trodAll_cons r0
  obtain ⟨v2, vs2, d2, ds2, p2, q2, rfl, rfl, rfl, h2, r2⟩ := trodAll_cons r1
  obtain ⟨v3, vs3, d3, ds3, p3, q3, rfl, rfl, rfl, h3, r3⟩ := trodAll_cons r2
  obtain ⟨v4, vs4, d4, ds4, p4, q4, rfl, rfl, rfl, h4, r4⟩ := trodAll_cons r3
  obtain ⟨v5, vs5, d5, ds5, p5, q5, rfl, rfl, rfl, h5, r5⟩ := trodAll_cons r4
  obtain ⟨v6, vs6, d6, ds6, p6, q6, rfl, rfl, rfl, h6, r6⟩ := trodAll_cons r5
  obtain ⟨rfl, rfl, rfl⟩ := trodAll_nil r6
  obtain rfl : args = #[v0, v1, v2, v3, v4, v5, v6] := by cases args; simp_all
  obtain ⟨rfl, rfl⟩ := trodVars_none hV
  have k0 := h0
  have lt0 : ∀ x ∈ p0, x.block < W.heap.size := by obtain ⟨m, hm⟩ := k0; exact DataW.trod_lt m _ _ _ hm
  obtain ⟨a0_0, a0_1, a0_2, a0_3, a0_4, w0_0, w0_1, w0_2, w0_3, w0_4, rfl⟩ := open28 (hval 0 28 v0 rfl rfl) h0
  obtain ⟨a1, rfl, rfl, rfl, w1⟩ := open_int Tryd.underlying3 (hval 1 3 v1 rfl rfl) h1
  obtain ⟨a2, rfl, rfl, rfl, w2⟩ := open_int Tryd.underlying26 (hval 2 26 v2 rfl rfl) h2
  obtain ⟨a3, rfl, rfl, rfl, w3⟩ := open_int Tryd.underlying26 (hval 3 26 v3 rfl rfl) h3
  have k4 := h4
  have lt4 : ∀ x ∈ p4, x.block < W.heap.size := by obtain ⟨m, hm⟩ := k4; exact DataW.trod_lt m _ _ _ hm
  obtain ⟨a4_0, a4_1, a4_2, a4_3, a4_4, a4_5, a4_6, a4_7, a4_8, len4_8, cap4_8, z4_8, a4_9, len4_9, cap4_9, z4_9, w4_0, w4_1, w4_2, w4_3, w4_4, w4_5, w4_6, w4_7, w4_8, w4_9, rfl⟩ := open44 (hval 4 44 v4 rfl rfl) h4
  have k5 := h5
  have lt5 : ∀ x ∈ p5, x.block < W.heap.size := by obtain ⟨m, hm⟩ := k5; exact DataW.trod_lt m _ _ _ hm
  obtain ⟨a5_0_0, a5_0_1, a5_0_2, a5_0_3, a5_0_4, a5_1, a5_2, a5_3, a5_4, a5_5, a5_6, a5_7, a5_8, w5_0_0, w5_0_1, w5_0_2, w5_0_3, w5_0_4, w5_1, w5_2, w5_3, w5_6, w5_7, w5_8, rfl⟩ := open55 (hval 5 55 v5 rfl rfl) h5
  obtain ⟨a6, rfl, rfl, rfl, w6⟩ := open_int Tryd.underlying3 (hval 6 3 v6 rfl rfl) h6
  clear hA0 hval0
  refine (walk a0_0 a0_1 a0_2 a0_3 a0_4 a1 a2 a3 a4_0 a4_1 a4_2 a4_3 a4_4 a4_5 a4_6 a4_7 a4_8 len4_8 cap4_8 z4_8 a4_9 len4_9 cap4_9 z4_9 a5_0_0 a5_0_1 a5_0_2 a5_0_3 a5_0_4 a5_1 a5_2 a5_3 a5_4 a5_5 a5_6 a5_7 a5_8 a6 W w0_0 w0_1 w0_2 w0_3 w0_4 w1 w2 w3 w4_0 w4_1 w4_2 w4_3 w4_4 w4_5 w4_6 w4_7 w4_8 w4_9 w5_0_0 w5_0_1 w5_0_2 w5_0_3 w5_0_4 w5_1 w5_2 w5_3 w5_6 w5_7 w5_8 w6 hS).mono fun e W' ⟨he, bel⟩ => ?_
  subst he
  exact ⟨_, rfl, _, _, _, [], _, [], hW', trodAll_mk1 (shut_bool Tryd.underlying4 _), (trodAll_cons_mk (Below.trod laidOut (by kernel_rfl) (of_decide_eq_true (by kernel_rfl)) k0 bel lt0) (trodAll_cons_mk (shut_int Tryd.underlying3 w1) (trodAll_cons_mk (shut_int Tryd.underlying26 w2) (trodAll_cons_mk (shut_int Tryd.underlying26 w3) (trodAll_cons_mk (Below.trod laidOut (by kernel_rfl) (of_decide_eq_true (by kernel_rfl)) k4 bel lt4) (trodAll_cons_mk (Below.trod laidOut (by kernel_rfl) (of_decide_eq_true (by kernel_rfl)) k5 bel lt5) (trodAll_cons_mk (shut_int Tryd.underlying3 w6) trodAll_mk0))))))), rfl, bel.frame _, fun h => by cases h⟩

theorem over : Rows.proxyJoinsRow.holds Tryd.pinned (OpenSpec.ofChange Rows.proxyJoinsSpec) :=
  OpenClaim.holds_of_wide 7 Tryd.f7 rfl rfl rfl rfl rfl rfl rfl ⟨rfl, rfl, rfl, rfl, rfl⟩ rfl rfl rfl rfl rfl (by kernel_rfl) Tryd.func7 (by kernel_rfl)
    (of_decide_eq_true (by kernel_rfl)) (by unfold Func.isWrapper; first | (rw [if_pos (by decide +kernel)]; kernel_rfl) | (rw [if_neg (by decide +kernel)]; exact ⟨rfl, rfl⟩))
    (fun os started H enc _ => lifted os started H enc)


theorem proved : Rows.ProxyJoinsCardSaid :=
  Claim7.holds_tied_plain_at .later [] [.data] true (true, "32bfc3cd738ba0eae6a8c6ce69dae6cf547782be29f3f00abc37ed9fb6bbbead") false
    over (fun _ h => by cases h) (by kernel_rfl) (fun _ h => by cases h) proxyJoins_row_tie rfl ⟨rfl, rfl⟩ (by kernel_rfl) rfl
    (fun f fn hf hfn => by
      obtain rfl : f = 7 := Option.some.inj ((show Tryd.prog.funcNamed "linkboy/linkboylaw38.ProxyJoins" = some 7 by kernel_rfl).symm.trans hf) |>.symm
      obtain rfl : fn = Tryd.f7 := (Option.some.inj (Tryd.func7.symm.trans hfn)).symm
      exact ⟨by kernel_rfl, fun j t ht => by
        rw [Tryd.params7] at ht
        have hm : t ∈ [28, 3, 26, 26, 44, 55, 3] := by simpa using Array.mem_of_getElem? ht
        have hall : ([28, 3, 26, 26, 44, 55, 3].all fun u => !Tryd.prog.wantsStandIn u) = true := by kernel_rfl
        exact (show Tryd.prog.wantsStandIn t = false by simpa using List.all_eq_true.1 hall t hm)⟩)
    (by kernel_rfl)
#print axioms proved
end Go.Proofs.YteodjajjlgekcaaDoor.proxyJoins
