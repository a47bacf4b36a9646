/- Proved, as a card: for every input of the given statement on proxy.Offer and Accept (what one who begins is answered, by any secrets, any flow and any segment, cut to fifty bytes of options and two hundred of data; and whose answer is accepted) the function of the statement returns true and leaves its arguments as they were; conditions: the package variable cookie.sizes holds what its initialiser gives it. -/
import Derived.Test.YteodjajjlgekcaaDoorRows
import Derived.WalkKit
import Derived.ProofKit
import Derived.OpenShut
import Derived.ShutString
import Derived.ChangeOld
import Derived.Below
import Derived.Lib.SmallJoins
import Derived.Test.YteodjajjlgekcaaDoorLaw38b
import Derived.LaidMore
import Derived.Stop.Joined
import Derived.SevenTiedAt
import Derived.Test.YteodjajjlgekcaaDoorTie
import Derived.Test.YteodjajjlgekcaaDoorCards
namespace Go.Proofs.YteodjajjlgekcaaDoor.proxyOffers
open Go.ChangeShapes Go.WideShapes Go.ChangeAt Go.RowKit
open Go.ChangeMaps (open_string shut_string)
set_option linter.unusedVariables false

theorem own : ownKnob Tryd.prog.godebug = none := by kernel_rfl
theorem laidOut : laidOutB Tryd.prog = true := by kernel_rfl

theorem gS : Tryd.prog.globalNamed "linkboy/cookie.sizes" = some 0 := by kernel_rfl
theorem door_met (os : Go.Os) (args : Array Value) : laidMetH Tryd.prog [("linkboy/cookie.sizes", Rows.laid_linkboy_cookie_sizes)] ((World.doorLaid Tryd.prog 14 os).forCall (fun _ _ => 0) ⟨#[], args, []⟩).memory :=
  laidMetH_of_parts3 (fuel := 8) (laidMet_of_run' 8 (by kernel_rfl) (by kernel_rfl)) (by kernel_rfl) (by kernel_rfl)
def IsRow (k : IntKind) (w : World) (a : Option Addr) (len cap : Nat) (zs : List Int) : Prop :=
  (a = none ∧ len = 0 ∧ cap = 0 ∧ zs = []) ∨
  ∃ x, a = some x ∧ len ≤ cap ∧ cap ≤ maxLen ∧ zs.length = cap ∧ (∀ i, i < zs.length → w.cell? (x.add i) = some (.int k (zs.getD i 0))) ∧ ∀ n ∈ zs, (Lit.int k n).wf = true

theorem cons_of {α : Type} {l : List α} {n : Nat} (h : l.length = n + 1) : ∃ c l1, l = c :: l1 ∧ l1.length = n := by
  cases l with
  | nil => cases h
  | cons c l => exact ⟨c, l, rfl, by simpa using h⟩
theorem cells22 : Tryd.prog.cellsOf 22 = 1 := by kernel_rfl
theorem cells24 : Tryd.prog.cellsOf 24 = 2 := by kernel_rfl
theorem cells3 : Tryd.prog.cellsOf 3 = 1 := by kernel_rfl
theorem cells36 : Tryd.prog.cellsOf 36 = 5 := by kernel_rfl
theorem cells25 : Tryd.prog.cellsOf 25 = 1 := by kernel_rfl
theorem cells26 : Tryd.prog.cellsOf 26 = 1 := by kernel_rfl
theorem cells5 : Tryd.prog.cellsOf 5 = 1 := by kernel_rfl
theorem cells28 : Tryd.prog.cellsOf 28 = 5 := by kernel_rfl
theorem cells42 : Tryd.prog.cellsOf 42 = 1 := by kernel_rfl
theorem cells44 : Tryd.prog.cellsOf 44 = 10 := by kernel_rfl
theorem okArray {P : Program} {w : World} {r : Reach} {base : Nat} {v : Value} {n : Nat} {e t : TypeId} (ht : P.underlying t = some (.array n e)) (h : Value.okWide P w r base t v) : ∃ cs, v = .agg cs ∧ cs.size = P.cellsOf t := by
  simp only [Value.okWide, ht] at h
  obtain ⟨cs, h1, h2, _⟩ := h
  exact ⟨cs, h1, h2⟩
theorem isRow_of {H : Type} {enc : TypeId × Value → H} {P : Program} {W : World} {t e : TypeId} {k : IntKind} {n : Nat} {a : Option Addr} {len cap : Nat} {y : DataW H × List MemPlace} (ht : P.underlying t = some (.slice e)) (he : P.underlying e = some (.int k)) (hc : P.cellsOf e = 1)
    (hf : DataW.trod enc P W 0 (fun _ => true) true n t [.slice a len cap] = some y) : ∃ zs, IsRow k W a len cap zs := by
  rcases open_ints ht he hc hf with ⟨hcs, _⟩ | ⟨x, l, c, zs, hcs, _, hl, hm, hz, _, hcell, hwz⟩
  · simp at hcs
    obtain ⟨rfl, rfl, rfl⟩ := hcs
    exact ⟨[], .inl ⟨rfl, rfl, rfl, rfl⟩⟩
  · simp at hcs
    obtain ⟨rfl, rfl, rfl⟩ := hcs
    exact ⟨zs, .inr ⟨_, rfl, hl, hm, by simpa using hz, hcell, hwz⟩⟩
theorem list5 {α : Type} (l : List α) (h : l.length = 5) : ∃ c0 c1 c2 c3 c4, l = [c0, c1, c2, c3, c4] := by
  obtain ⟨c0, l0, e0, h0⟩ := cons_of h
  obtain ⟨c1, l1, e1, h1⟩ := cons_of h0
  obtain ⟨c2, l2, e2, h2⟩ := cons_of h1
  obtain ⟨c3, l3, e3, h3⟩ := cons_of h2
  obtain ⟨c4, l4, e4, h4⟩ := cons_of h3
  have e5 := List.eq_nil_of_length_eq_zero h4
  subst e5 e4 e3 e2 e1 e0
  exact ⟨c0, c1, c2, c3, c4, rfl⟩
set_option maxRecDepth 100000 in
theorem open36 {H : Type} {enc : TypeId × Value → H} {W : World} {base : Nat} {v : Value} {d : DataW H} {p : List MemPlace} (hv : Value.okWide Tryd.prog W .any base 36 v) (h : DataW.Trod enc Tryd.prog W 0 (fun _ => true) true 36 v d p) :
    ∃ (ax_0_0 : Int) (ax_0_1 : Int) (ax_1_0 : Int) (ax_1_1 : Int) (ax_2 : Int), (Lit.int .u64 ax_0_0).wf = true ∧ (Lit.int .u64 ax_0_1).wf = true ∧ (Lit.int .u64 ax_1_0).wf = true ∧ (Lit.int .u64 ax_1_1).wf = true ∧ (Lit.int .i64 ax_2).wf = true ∧ v = .agg #[.int .u64 ax_0_0, .int .u64 ax_0_1, .int .u64 ax_1_0, .int .u64 ax_1_1, .int .i64 ax_2] := by
  obtain ⟨cs, rfl, hsz⟩ := okWide_struct Tryd.underlying36 hv
  rw [cells36] at hsz
  obtain ⟨l⟩ := cs
  have hsz2 : l.length = 5 := hsz
  obtain ⟨c0, c1, c2, c3, c4, rfl⟩ := list5 l hsz2
  obtain ⟨fuel, hf⟩ := h
  have hf : DataW.trod enc Tryd.prog W 0 (fun _ => true) true fuel 36 [c0, c1, c2, c3, c4] = some (d, p) := hf
  obtain ⟨xs0, n0, -, -, -, hl0, hx0⟩ := DataW.trod_struct Tryd.underlying36 hf
  obtain ⟨y0_0, hy0_0⟩ : ∃ y, xs0[0]? = some y := ⟨_, List.getElem?_eq_getElem (by rw [hl0]; decide)⟩
  have g0_0 : DataW.trod enc Tryd.prog W 0 (fun _ => true) true n0 24 [c0, c1] = some y0_0 := by
    have g0 := hx0 0 _ rfl
    rw [hy0_0] at g0
    simpa [Value.cells, cells24] using g0
  obtain ⟨y0_1, hy0_1⟩ : ∃ y, xs0[1]? = some y := ⟨_, List.getElem?_eq_getElem (by rw [hl0]; decide)⟩
  have g0_1 : DataW.trod enc Tryd.prog W 0 (fun _ => true) true n0 24 [c2, c3] = some y0_1 := by
    have g0 := hx0 1 _ rfl
    rw [hy0_1] at g0
    simpa [Value.cells, cells24] using g0
  obtain ⟨y0_2, hy0_2⟩ : ∃ y, xs0[2]? = some y := ⟨_, List.getElem?_eq_getElem (by rw [hl0]; decide)⟩
  have g0_2 : DataW.trod enc Tryd.prog W 0 (fun _ => true) true n0 3 [c4] = some y0_2 := by
    have g0 := hx0 2 _ rfl
    rw [hy0_2] at g0
    simpa [Value.cells, cells3] using g0
  clear hf hx0
  obtain ⟨xs1, n1, -, -, -, hl1, hx1⟩ := DataW.trod_struct Tryd.underlying24 g0_0
  obtain ⟨y1_0, hy1_0⟩ : ∃ y, xs1[0]? = some y := ⟨_, List.getElem?_eq_getElem (by rw [hl1]; decide)⟩
  have g1_0 : DataW.trod enc Tryd.prog W 0 (fun _ => true) true n1 22 [c0] = some y1_0 := by
    have g0 := hx1 0 _ rfl
    rw [hy1_0] at g0
    simpa [Value.cells, cells22] using g0
  obtain ⟨y1_1, hy1_1⟩ : ∃ y, xs1[1]? = some y := ⟨_, List.getElem?_eq_getElem (by rw [hl1]; decide)⟩
  have g1_1 : DataW.trod enc Tryd.prog W 0 (fun _ => true) true n1 22 [c1] = some y1_1 := by
    have g0 := hx1 1 _ rfl
    rw [hy1_1] at g0
    simpa [Value.cells, cells22] using g0
  clear g0_0 hx1
  obtain ⟨ax_0_0, ex_0_0, -, wx_0_0⟩ := DataW.trod_int Tryd.underlying22 g1_0
  obtain rfl : c0 = .int .u64 ax_0_0 := by simpa using ex_0_0
  clear g1_0 ex_0_0
  obtain ⟨ax_0_1, ex_0_1, -, wx_0_1⟩ := DataW.trod_int Tryd.underlying22 g1_1
  obtain rfl : c1 = .int .u64 ax_0_1 := by simpa using ex_0_1
  clear g1_1 ex_0_1
  obtain ⟨xs2, n2, -, -, -, hl2, hx2⟩ := DataW.trod_struct Tryd.underlying24 g0_1
  obtain ⟨y2_0, hy2_0⟩ : ∃ y, xs2[0]? = some y := ⟨_, List.getElem?_eq_getElem (by rw [hl2]; decide)⟩
  have g2_0 : DataW.trod enc Tryd.prog W 0 (fun _ => true) true n2 22 [c2] = some y2_0 := by
    have g0 := hx2 0 _ rfl
    rw [hy2_0] at g0
    simpa [Value.cells, cells22] using g0
  obtain ⟨y2_1, hy2_1⟩ : ∃ y, xs2[1]? = some y := ⟨_, List.getElem?_eq_getElem (by rw [hl2]; decide)⟩
  have g2_1 : DataW.trod enc Tryd.prog W 0 (fun _ => true) true n2 22 [c3] = some y2_1 := by
    have g0 := hx2 1 _ rfl
    rw [hy2_1] at g0
    simpa [Value.cells, cells22] using g0
  clear g0_1 hx2
  obtain ⟨ax_1_0, ex_1_0, -, wx_1_0⟩ := DataW.trod_int Tryd.underlying22 g2_0
  obtain rfl : c2 = .int .u64 ax_1_0 := by simpa using ex_1_0
  clear g2_0 ex_1_0
  obtain ⟨ax_1_1, ex_1_1, -, wx_1_1⟩ := DataW.trod_int Tryd.underlying22 g2_1
  obtain rfl : c3 = .int .u64 ax_1_1 := by simpa using ex_1_1
  clear g2_1 ex_1_1
  obtain ⟨ax_2, ex_2, -, wx_2⟩ := DataW.trod_int Tryd.underlying3 g0_2
  obtain rfl : c4 = .int .i64 ax_2 := by simpa using ex_2
  clear g0_2 ex_2
  exact ⟨ax_0_0, ax_0_1, ax_1_0, ax_1_1, ax_2, wx_0_0, wx_0_1, wx_1_0, wx_1_1, wx_2, rfl⟩
set_option maxRecDepth 100000 in
theorem open28 {H : Type} {enc : TypeId × Value → H} {W : World} {base : Nat} {v : Value} {d : DataW H} {p : List MemPlace} (hv : Value.okWide Tryd.prog W .any base 28 v) (h : DataW.Trod enc Tryd.prog W 0 (fun _ => true) true 28 v d p) :
    ∃ (ax_0 : Int) (ax_1 : Int) (ax_2 : Int) (ax_3 : Int) (ax_4 : Int), (Lit.int .u32 ax_0).wf = true ∧ (Lit.int .u32 ax_1).wf = true ∧ (Lit.int .u16 ax_2).wf = true ∧ (Lit.int .u16 ax_3).wf = true ∧ (Lit.int .u8 ax_4).wf = true ∧ v = .agg #[.int .u32 ax_0, .int .u32 ax_1, .int .u16 ax_2, .int .u16 ax_3, .int .u8 ax_4] := by
  obtain ⟨cs, rfl, hsz⟩ := okWide_struct Tryd.underlying28 hv
  rw [cells28] at hsz
  obtain ⟨l⟩ := cs
  have hsz2 : l.length = 5 := hsz
  obtain ⟨c0, c1, c2, c3, c4, rfl⟩ := list5 l hsz2
  obtain ⟨fuel, hf⟩ := h
  have hf : DataW.trod enc Tryd.prog W 0 (fun _ => true) true fuel 28 [c0, c1, c2, c3, c4] = some (d, p) := hf
  obtain ⟨xs3, n3, -, -, -, hl3, hx3⟩ := DataW.trod_struct Tryd.underlying28 hf
  obtain ⟨y3_0, hy3_0⟩ : ∃ y, xs3[0]? = some y := ⟨_, List.getElem?_eq_getElem (by rw [hl3]; decide)⟩
  have g3_0 : DataW.trod enc Tryd.prog W 0 (fun _ => true) true n3 25 [c0] = some y3_0 := by
    have g0 := hx3 0 _ rfl
    rw [hy3_0] at g0
    simpa [Value.cells, cells25] using g0
  obtain ⟨y3_1, hy3_1⟩ : ∃ y, xs3[1]? = some y := ⟨_, List.getElem?_eq_getElem (by rw [hl3]; decide)⟩
  have g3_1 : DataW.trod enc Tryd.prog W 0 (fun _ => true) true n3 25 [c1] = some y3_1 := by
    have g0 := hx3 1 _ rfl
    rw [hy3_1] at g0
    simpa [Value.cells, cells25] using g0
  obtain ⟨y3_2, hy3_2⟩ : ∃ y, xs3[2]? = some y := ⟨_, List.getElem?_eq_getElem (by rw [hl3]; decide)⟩
  have g3_2 : DataW.trod enc Tryd.prog W 0 (fun _ => true) true n3 26 [c2] = some y3_2 := by
    have g0 := hx3 2 _ rfl
    rw [hy3_2] at g0
    simpa [Value.cells, cells26] using g0
  obtain ⟨y3_3, hy3_3⟩ : ∃ y, xs3[3]? = some y := ⟨_, List.getElem?_eq_getElem (by rw [hl3]; decide)⟩
  have g3_3 : DataW.trod enc Tryd.prog W 0 (fun _ => true) true n3 26 [c3] = some y3_3 := by
    have g0 := hx3 3 _ rfl
    rw [hy3_3] at g0
    simpa [Value.cells, cells26] using g0
  obtain ⟨y3_4, hy3_4⟩ : ∃ y, xs3[4]? = some y := ⟨_, List.getElem?_eq_getElem (by rw [hl3]; decide)⟩
  have g3_4 : DataW.trod enc Tryd.prog W 0 (fun _ => true) true n3 5 [c4] = some y3_4 := by
    have g0 := hx3 4 _ rfl
    rw [hy3_4] at g0
    simpa [Value.cells, cells5] using g0
  clear hf hx3
  obtain ⟨ax_0, ex_0, -, wx_0⟩ := DataW.trod_int Tryd.underlying25 g3_0
  obtain rfl : c0 = .int .u32 ax_0 := by simpa using ex_0
  clear g3_0 ex_0
  obtain ⟨ax_1, ex_1, -, wx_1⟩ := DataW.trod_int Tryd.underlying25 g3_1
  obtain rfl : c1 = .int .u32 ax_1 := by simpa using ex_1
  clear g3_1 ex_1
  obtain ⟨ax_2, ex_2, -, wx_2⟩ := DataW.trod_int Tryd.underlying26 g3_2
  obtain rfl : c2 = .int .u16 ax_2 := by simpa using ex_2
  clear g3_2 ex_2
  obtain ⟨ax_3, ex_3, -, wx_3⟩ := DataW.trod_int Tryd.underlying26 g3_3
  obtain rfl : c3 = .int .u16 ax_3 := by simpa using ex_3
  clear g3_3 ex_3
  obtain ⟨ax_4, ex_4, -, wx_4⟩ := DataW.trod_int Tryd.underlying5 g3_4
  obtain rfl : c4 = .int .u8 ax_4 := by simpa using ex_4
  clear g3_4 ex_4
  exact ⟨ax_0, ax_1, ax_2, ax_3, ax_4, wx_0, wx_1, wx_2, wx_3, wx_4, rfl⟩
theorem list10 {α : Type} (l : List α) (h : l.length = 10) : ∃ c0 c1 c2 c3 c4 c5 c6 c7 c8 c9, l = [c0, c1, c2, c3, c4, c5, c6, c7, c8, c9] := by
  obtain ⟨c0, l0, e0, h0⟩ := cons_of h
  obtain ⟨c1, l1, e1, h1⟩ := cons_of h0
  obtain ⟨c2, l2, e2, h2⟩ := cons_of h1
  obtain ⟨c3, l3, e3, h3⟩ := cons_of h2
  obtain ⟨c4, l4, e4, h4⟩ := cons_of h3
  obtain ⟨c5, l5, e5, h5⟩ := cons_of h4
  obtain ⟨c6, l6, e6, h6⟩ := cons_of h5
  obtain ⟨c7, l7, e7, h7⟩ := cons_of h6
  obtain ⟨c8, l8, e8, h8⟩ := cons_of h7
  obtain ⟨c9, l9, e9, h9⟩ := cons_of h8
  have e10 := List.eq_nil_of_length_eq_zero h9
  subst e10 e9 e8 e7 e6 e5 e4 e3 e2 e1 e0
  exact ⟨c0, c1, c2, c3, c4, c5, c6, c7, c8, c9, rfl⟩
set_option maxRecDepth 100000 in
theorem open44 {H : Type} {enc : TypeId × Value → H} {W : World} {base : Nat} {v : Value} {d : DataW H} {p : List MemPlace} (hv : Value.okWide Tryd.prog W .any base 44 v) (h : DataW.Trod enc Tryd.prog W 0 (fun _ => true) true 44 v d p) :
    ∃ (ax_0 : Int) (ax_1 : Int) (ax_2 : Int) (ax_3 : Int) (ax_4 : Int) (ax_5 : Int) (ax_6 : Int) (ax_7 : Int) (ax_8 : Option Addr) (lenx_8 capx_8 : Nat) (zx_8 : List Int) (ax_9 : Option Addr) (lenx_9 capx_9 : Nat) (zx_9 : List Int), (Lit.int .u16 ax_0).wf = true ∧ (Lit.int .u16 ax_1).wf = true ∧ (Lit.int .u32 ax_2).wf = true ∧ (Lit.int .u32 ax_3).wf = true ∧ (Lit.int .u8 ax_4).wf = true ∧ (Lit.int .u8 ax_5).wf = true ∧ (Lit.int .u16 ax_6).wf = true ∧ (Lit.int .u16 ax_7).wf = true ∧ IsRow .u8 W ax_8 lenx_8 capx_8 zx_8 ∧ IsRow .u8 W ax_9 lenx_9 capx_9 zx_9 ∧ v = .agg #[.int .u16 ax_0, .int .u16 ax_1, .int .u32 ax_2, .int .u32 ax_3, .int .u8 ax_4, .int .u8 ax_5, .int .u16 ax_6, .int .u16 ax_7, .slice ax_8 lenx_8 capx_8, .slice ax_9 lenx_9 capx_9] := by
  obtain ⟨cs, rfl, hsz⟩ := okWide_struct Tryd.underlying44 hv
  rw [cells44] at hsz
  obtain ⟨l⟩ := cs
  have hsz2 : l.length = 10 := hsz
  obtain ⟨c0, c1, c2, c3, c4, c5, c6, c7, c8, c9, rfl⟩ := list10 l hsz2
  obtain ⟨fuel, hf⟩ := h
  have hf : DataW.trod enc Tryd.prog W 0 (fun _ => true) true fuel 44 [c0, c1, c2, c3, c4, c5, c6, c7, c8, c9] = some (d, p) := hf
  obtain ⟨xs4, n4, -, -, -, hl4, hx4⟩ := DataW.trod_struct Tryd.underlying44 hf
  obtain ⟨y4_0, hy4_0⟩ : ∃ y, xs4[0]? = some y := ⟨_, List.getElem?_eq_getElem (by rw [hl4]; decide)⟩
  have g4_0 : DataW.trod enc Tryd.prog W 0 (fun _ => true) true n4 26 [c0] = some y4_0 := by
    have g0 := hx4 0 _ rfl
    rw [hy4_0] at g0
    simpa [Value.cells, cells26] using g0
  obtain ⟨y4_1, hy4_1⟩ : ∃ y, xs4[1]? = some y := ⟨_, List.getElem?_eq_getElem (by rw [hl4]; decide)⟩
  have g4_1 : DataW.trod enc Tryd.prog W 0 (fun _ => true) true n4 26 [c1] = some y4_1 := by
    have g0 := hx4 1 _ rfl
    rw [hy4_1] at g0
    simpa [Value.cells, cells26] using g0
  obtain ⟨y4_2, hy4_2⟩ : ∃ y, xs4[2]? = some y := ⟨_, List.getElem?_eq_getElem (by rw [hl4]; decide)⟩
  have g4_2 : DataW.trod enc Tryd.prog W 0 (fun _ => true) true n4 25 [c2] = some y4_2 := by
    have g0 := hx4 2 _ rfl
    rw [hy4_2] at g0
    simpa [Value.cells, cells25] using g0
  obtain ⟨y4_3, hy4_3⟩ : ∃ y, xs4[3]? = some y := ⟨_, List.getElem?_eq_getElem (by rw [hl4]; decide)⟩
  have g4_3 : DataW.trod enc Tryd.prog W 0 (fun _ => true) true n4 25 [c3] = some y4_3 := by
    have g0 := hx4 3 _ rfl
    rw [hy4_3] at g0
    simpa [Value.cells, cells25] using g0
  obtain ⟨y4_4, hy4_4⟩ : ∃ y, xs4[4]? = some y := ⟨_, List.getElem?_eq_getElem (by rw [hl4]; decide)⟩
  have g4_4 : DataW.trod enc Tryd.prog W 0 (fun _ => true) true n4 5 [c4] = some y4_4 := by
    have g0 := hx4 4 _ rfl
    rw [hy4_4] at g0
    simpa [Value.cells, cells5] using g0
  obtain ⟨y4_5, hy4_5⟩ : ∃ y, xs4[5]? = some y := ⟨_, List.getElem?_eq_getElem (by rw [hl4]; decide)⟩
  have g4_5 : DataW.trod enc Tryd.prog W 0 (fun _ => true) true n4 5 [c5] = some y4_5 := by
    have g0 := hx4 5 _ rfl
    rw [hy4_5] at g0
    simpa [Value.cells, cells5] using g0
  obtain ⟨y4_6, hy4_6⟩ : ∃ y, xs4[6]? = some y := ⟨_, List.getElem?_eq_getElem (by rw [hl4]; decide)⟩
  have g4_6 : DataW.trod enc Tryd.prog W 0 (fun _ => true) true n4 26 [c6] = some y4_6 := by
    have g0 := hx4 6 _ rfl
    rw [hy4_6] at g0
    simpa [Value.cells, cells26] using g0
  obtain ⟨y4_7, hy4_7⟩ : ∃ y, xs4[7]? = some y := ⟨_, List.getElem?_eq_getElem (by rw [hl4]; decide)⟩
  have g4_7 : DataW.trod enc Tryd.prog W 0 (fun _ => true) true n4 26 [c7] = some y4_7 := by
    have g0 := hx4 7 _ rfl
    rw [hy4_7] at g0
    simpa [Value.cells, cells26] using g0
  obtain ⟨y4_8, hy4_8⟩ : ∃ y, xs4[8]? = some y := ⟨_, List.getElem?_eq_getElem (by rw [hl4]; decide)⟩
  have g4_8 : DataW.trod enc Tryd.prog W 0 (fun _ => true) true n4 42 [c8] = some y4_8 := by
    have g0 := hx4 8 _ rfl
    rw [hy4_8] at g0
    simpa [Value.cells, cells42] using g0
  obtain ⟨y4_9, hy4_9⟩ : ∃ y, xs4[9]? = some y := ⟨_, List.getElem?_eq_getElem (by rw [hl4]; decide)⟩
  have g4_9 : DataW.trod enc Tryd.prog W 0 (fun _ => true) true n4 42 [c9] = some y4_9 := by
    have g0 := hx4 9 _ rfl
    rw [hy4_9] at g0
    simpa [Value.cells, cells42] using g0
  clear hf hx4
  obtain ⟨ax_0, ex_0, -, wx_0⟩ := DataW.trod_int Tryd.underlying26 g4_0
  obtain rfl : c0 = .int .u16 ax_0 := by simpa using ex_0
  clear g4_0 ex_0
  obtain ⟨ax_1, ex_1, -, wx_1⟩ := DataW.trod_int Tryd.underlying26 g4_1
  obtain rfl : c1 = .int .u16 ax_1 := by simpa using ex_1
  clear g4_1 ex_1
  obtain ⟨ax_2, ex_2, -, wx_2⟩ := DataW.trod_int Tryd.underlying25 g4_2
  obtain rfl : c2 = .int .u32 ax_2 := by simpa using ex_2
  clear g4_2 ex_2
  obtain ⟨ax_3, ex_3, -, wx_3⟩ := DataW.trod_int Tryd.underlying25 g4_3
  obtain rfl : c3 = .int .u32 ax_3 := by simpa using ex_3
  clear g4_3 ex_3
  obtain ⟨ax_4, ex_4, -, wx_4⟩ := DataW.trod_int Tryd.underlying5 g4_4
  obtain rfl : c4 = .int .u8 ax_4 := by simpa using ex_4
  clear g4_4 ex_4
  obtain ⟨ax_5, ex_5, -, wx_5⟩ := DataW.trod_int Tryd.underlying5 g4_5
  obtain rfl : c5 = .int .u8 ax_5 := by simpa using ex_5
  clear g4_5 ex_5
  obtain ⟨ax_6, ex_6, -, wx_6⟩ := DataW.trod_int Tryd.underlying26 g4_6
  obtain rfl : c6 = .int .u16 ax_6 := by simpa using ex_6
  clear g4_6 ex_6
  obtain ⟨ax_7, ex_7, -, wx_7⟩ := DataW.trod_int Tryd.underlying26 g4_7
  obtain rfl : c7 = .int .u16 ax_7 := by simpa using ex_7
  clear g4_7 ex_7
  obtain ⟨ax_8, lenx_8, capx_8, ex_8⟩ := Go.Joins.slice_form Tryd.underlying42 g4_8
  obtain rfl : c8 = .slice ax_8 lenx_8 capx_8 := by simpa using ex_8
  obtain ⟨zx_8, wx_8⟩ := isRow_of Tryd.underlying42 Tryd.underlying5 (by kernel_rfl) g4_8
  clear g4_8 ex_8
  obtain ⟨ax_9, lenx_9, capx_9, ex_9⟩ := Go.Joins.slice_form Tryd.underlying42 g4_9
  obtain rfl : c9 = .slice ax_9 lenx_9 capx_9 := by simpa using ex_9
  obtain ⟨zx_9, wx_9⟩ := isRow_of Tryd.underlying42 Tryd.underlying5 (by kernel_rfl) g4_9
  clear g4_9 ex_9
  exact ⟨ax_0, ax_1, ax_2, ax_3, ax_4, ax_5, ax_6, ax_7, ax_8, lenx_8, capx_8, zx_8, ax_9, lenx_9, capx_9, zx_9, wx_0, wx_1, wx_2, wx_3, wx_4, wx_5, wx_6, wx_7, wx_8, wx_9, rfl⟩

theorem walk (a0_0_0 : Int) (a0_0_1 : Int) (a0_1_0 : Int) (a0_1_1 : Int) (a0_2 : Int) (a1_0 : Int) (a1_1 : Int) (a1_2 : Int) (a1_3 : Int) (a1_4 : Int) (a2_0 : Int) (a2_1 : Int) (a2_2 : Int) (a2_3 : Int) (a2_4 : Int) (a2_5 : Int) (a2_6 : Int) (a2_7 : Int) (a2_8 : Option Addr) (len2_8 cap2_8 : Nat) (z2_8 : List Int) (a2_9 : Option Addr) (len2_9 cap2_9 : Nat) (z2_9 : List Int) (w : World) (w0_0_0 : (Lit.int .u64 a0_0_0).wf = true) (w0_0_1 : (Lit.int .u64 a0_0_1).wf = true) (w0_1_0 : (Lit.int .u64 a0_1_0).wf = true) (w0_1_1 : (Lit.int .u64 a0_1_1).wf = true) (w0_2 : (Lit.int .i64 a0_2).wf = true) (w1_0 : (Lit.int .u32 a1_0).wf = true) (w1_1 : (Lit.int .u32 a1_1).wf = true) (w1_2 : (Lit.int .u16 a1_2).wf = true) (w1_3 : (Lit.int .u16 a1_3).wf = true) (w1_4 : (Lit.int .u8 a1_4).wf = true) (w2_0 : (Lit.int .u16 a2_0).wf = true) (w2_1 : (Lit.int .u16 a2_1).wf = true) (w2_2 : (Lit.int .u32 a2_2).wf = true) (w2_3 : (Lit.int .u32 a2_3).wf = true) (w2_4 : (Lit.int .u8 a2_4).wf = true) (w2_5 : (Lit.int .u8 a2_5).wf = true) (w2_6 : (Lit.int .u16 a2_6).wf = true) (w2_7 : (Lit.int .u16 a2_7).wf = true) (w2_8 : IsRow .u8 w a2_8 len2_8 cap2_8 z2_8) (w2_9 : IsRow .u8 w a2_9 len2_9 cap2_9 z2_9) (hS : SZ w) :
    Calls Tryd.prog 6 #[.agg #[.int .u64 a0_0_0, .int .u64 a0_0_1, .int .u64 a0_1_0, .int .u64 a0_1_1, .int .i64 a0_2], .agg #[.int .u32 a1_0, .int .u32 a1_1, .int .u16 a1_2, .int .u16 a1_3, .int .u8 a1_4], .agg #[.int .u16 a2_0, .int .u16 a2_1, .int .u32 a2_2, .int .u32 a2_3, .int .u8 a2_4, .int .u8 a2_5, .int .u16 a2_6, .int .u16 a2_7, .slice a2_8 len2_8 cap2_8, .slice a2_9 len2_9 cap2_9]] w fun e w' => e = .returned (.bool true) ∧ Below w.heap.size w w' := by
  exact ProxyOffers_walk a0_0_0 a0_0_1 a0_1_0 a0_1_1 a0_2 a1_0 a1_1 a1_2 a1_3 a1_4 a2_0 a2_1 a2_2 a2_3 a2_4 a2_5 a2_6 a2_7 a2_8 len2_8 cap2_8 z2_8 a2_9 len2_9 cap2_9 z2_9 w w0_0_0 w0_0_1 w0_1_0 w0_1_1 w0_2 w1_0 w1_1 w1_2 w1_3 w1_4 w2_0 w2_1 w2_2 w2_3 w2_4 w2_5 w2_6 w2_7 w2_8 w2_9 hS

set_option maxRecDepth 100000 in
theorem lifted (os : Go.Os) (started : os.Started) (H : Type) (enc : TypeId × Value → H) :
    ReturnsInHanded {} Tryd.checked os 6 .any (fun w args => (Rows.proxyOffersSpec.pre enc Tryd.prog Tryd.f6 [] false w args ∧ laidMetH Tryd.prog [("linkboy/cookie.sizes", Rows.laid_linkboy_cookie_sizes)] w) ∧ sizedMet enc Tryd.prog Tryd.f6 (OpenSpec.ofChange Rows.proxyOffersSpec) false w args) (Rows.proxyOffersSpec.post enc Tryd.prog Tryd.f6 false true false false) := by
  refine returnsInHanded_of_change_and (C := Tryd.checked) (X := fun w _ => laidMetH Tryd.prog [("linkboy/cookie.sizes", Rows.laid_linkboy_cookie_sizes)] w) (fun _ _ _ hh h => h.of_heap hh) own started (by kernel_rfl) Tryd.func6
    (ChangeSpec.witness_shaped (enc := enc) (C := Tryd.checked) (os := os) (X := fun w _ => laidMetH Tryd.prog [("linkboy/cookie.sizes", Rows.laid_linkboy_cookie_sizes)] w) false (World.doorLaid Tryd.prog 14 os) #[.agg #[.int .u64 0, .int .u64 0, .int .u64 0, .int .u64 0, .int .i64 0], .agg #[.int .u32 0, .int .u32 0, .int .u16 0, .int .u16 0, .int .u8 0], .agg #[.int .u16 0, .int .u16 0, .int .u32 0, .int .u32 0, .int .u8 0, .int .u8 0, .int .u16 0, .int .u16 0, .slice none 0 0, .slice none 0 0]] 8 rfl (World.shaped_of_RefB (by kernel_rfl) (by kernel_rfl)) (by kernel_rfl) (by kernel_rfl) (by kernel_rfl) (door_met os _)) ?_
  intro W base args ds gs before hval0 hW _ _ hL _
  have hS : SZ W := of_laid gS hL
  have hval : ∀ (j : Nat) t v, Tryd.f6.params[j]? = some t → args[j]? = some v → Value.okWide Tryd.prog W .any base t v := hval0
  have hW' := hW
  obtain ⟨p, q, hA0, hV, rfl, hfz, hnd⟩ := hW
  have hA : DataW.TrodAll enc Tryd.prog W 0 (fun _ => true) true Tryd.f6.params.toList args.toList ds p := hA0
  rw [Tryd.params6] at hA hval
  obtain ⟨v0, vs0, d0, ds0, p0, q0, hargs, rfl, rfl, h0, r0⟩ := trodAll_cons hA
  obtain ⟨v1, vs1, d1, ds1, p1, q1, rfl, rfl, rfl, h1, r1⟩ := trodAll_cons r0
  obtain ⟨v2, vs2, d2, ds2, p2, q2, rfl, rfl, rfl, h2, r2⟩ := trodAll_cons r1
  obtain ⟨rfl, rfl, rfl⟩ := trodAll_nil r2
  obtain rfl : args = #[v0, v1, v2] := by cases args; simp_all
  obtain ⟨rfl, rfl⟩ := trodVars_none hV
  have k0 := h0
  have lt0 : ∀ x ∈ p0, x.block < W.heap.size := by obtain ⟨m, hm⟩ := k0; exact DataW.trod_lt m _ _ _ hm
  obtain ⟨a0_0_0, a0_0_1, a0_1_0, a0_1_1, a0_2, w0_0_0, w0_0_1, w0_1_0, w0_1_1, w0_2, rfl⟩ := open36 (hval 0 36 v0 rfl rfl) h0
  have k1 := h1
  have lt1 : ∀ x ∈ p1, x.block < W.heap.size := by obtain ⟨m, hm⟩ := k1; exact DataW.trod_lt m _ _ _ hm
  obtain ⟨a1_0, a1_1, a1_2, a1_3, a1_4, w1_0, w1_1, w1_2, w1_3, w1_4, rfl⟩ := open28 (hval 1 28 v1 rfl rfl) h1
  have k2 := h2
  have lt2 : ∀ x ∈ p2, x.block < W.heap.size := by obtain ⟨m, hm⟩ := k2; exact DataW.trod_lt m _ _ _ hm
  obtain ⟨a2_0, a2_1, a2_2, a2_3, a2_4, a2_5, a2_6, a2_7, a2_8, len2_8, cap2_8, z2_8, a2_9, len2_9, cap2_9, z2_9, w2_0, w2_1, w2_2, w2_3, w2_4, w2_5, w2_6, w2_7, w2_8, w2_9, rfl⟩ := open44 (hval 2 44 v2 rfl rfl) h2
  clear hA0 hval0
  refine (walk a0_0_0 a0_0_1 a0_1_0 a0_1_1 a0_2 a1_0 a1_1 a1_2 a1_3 a1_4 a2_0 a2_1 a2_2 a2_3 a2_4 a2_5 a2_6 a2_7 a2_8 len2_8 cap2_8 z2_8 a2_9 len2_9 cap2_9 z2_9 W w0_0_0 w0_0_1 w0_1_0 w0_1_1 w0_2 w1_0 w1_1 w1_2 w1_3 w1_4 w2_0 w2_1 w2_2 w2_3 w2_4 w2_5 w2_6 w2_7 w2_8 w2_9 hS).mono fun e W' ⟨he, bel⟩ => ?_
  subst he
  exact ⟨_, rfl, _, _, _, [], _, [], hW', trodAll_mk1 (shut_bool Tryd.underlying4 _), (trodAll_cons_mk (Below.trod laidOut (by kernel_rfl) (of_decide_eq_true (by kernel_rfl)) k0 bel lt0) (trodAll_cons_mk (Below.trod laidOut (by kernel_rfl) (of_decide_eq_true (by kernel_rfl)) k1 bel lt1) (trodAll_cons_mk (Below.trod laidOut (by kernel_rfl) (of_decide_eq_true (by kernel_rfl)) k2 bel lt2) trodAll_mk0))), rfl, bel.frame _, fun h => by cases h⟩

theorem over : Rows.proxyOffersRow.holds Tryd.pinned (OpenSpec.ofChange Rows.proxyOffersSpec) :=
  OpenClaim.holds_of_wide 6 Tryd.f6 rfl rfl rfl rfl rfl rfl rfl ⟨rfl, rfl, rfl, rfl, rfl⟩ rfl rfl rfl rfl rfl (by kernel_rfl) Tryd.func6 (by kernel_rfl)
    (of_decide_eq_true (by kernel_rfl)) (by unfold Func.isWrapper; first | (rw [if_pos (by decide +kernel)]; kernel_rfl) | (rw [if_neg (by decide +kernel)]; exact ⟨rfl, rfl⟩))
    (fun os started H enc _ => lifted os started H enc)


theorem proved : Rows.ProxyOffersCardSaid :=
  Claim7.holds_tied_plain_at .later [] [.data] true (true, "32bfc3cd738ba0eae6a8c6ce69dae6cf547782be29f3f00abc37ed9fb6bbbead") false
    over (fun _ h => by cases h) (by kernel_rfl) (fun _ h => by cases h) proxyOffers_row_tie rfl ⟨rfl, rfl⟩ (by kernel_rfl) rfl
    (fun f fn hf hfn => by
      obtain rfl : f = 6 := Option.some.inj ((show Tryd.prog.funcNamed "linkboy/linkboylaw38.ProxyOffers" = some 6 by kernel_rfl).symm.trans hf) |>.symm
      obtain rfl : fn = Tryd.f6 := (Option.some.inj (Tryd.func6.symm.trans hfn)).symm
      exact ⟨by kernel_rfl, fun j t ht => by
        rw [Tryd.params6] at ht
        have hm : t ∈ [36, 28, 44] := by simpa using Array.mem_of_getElem? ht
        have hall : ([36, 28, 44].all fun u => !Tryd.prog.wantsStandIn u) = true := by kernel_rfl
        exact (show Tryd.prog.wantsStandIn t = false by simpa using List.all_eq_true.1 hall t hm)⟩)
    (by kernel_rfl)
#print axioms proved
end Go.Proofs.YteodjajjlgekcaaDoor.proxyOffers
