/- Proved: for every input of the given statement on errs.TooBig (who sent a packet that is too great is told of the flow of it, and of the bound) the function of the statement returns true and leaves its arguments as they were; no condition beside the form's own. -/
import Derived.Test.YtpibempfhgaomaaRows
import Derived.WalkKit
import Derived.ProofKit
import Derived.OpenShut
import Derived.ShutString
import Derived.ChangeOld
import Derived.Below
import Derived.Lib.SmallJoins
import Derived.Test.YtpibempfhgaomaaLaw30
namespace Go.Proofs.Ytpibempfhgaomaa.errsTells
open Go.ChangeShapes Go.WideShapes Go.ChangeAt Go.RowKit
open Go.ChangeMaps (open_string shut_string)
set_option linter.unusedVariables false

theorem own : ownKnob Try.prog.godebug = none := by kernel_rfl
theorem laidOut : laidOutB Try.prog = true := by kernel_rfl

def IsRow (k : IntKind) (w : World) (a : Option Addr) (len cap : Nat) (zs : List Int) : Prop :=
  (a = none ∧ len = 0 ∧ cap = 0 ∧ zs = []) ∨
  ∃ x, a = some x ∧ len ≤ cap ∧ cap ≤ maxLen ∧ zs.length = cap ∧ (∀ i, i < zs.length → w.cell? (x.add i) = some (.int k (zs.getD i 0))) ∧ ∀ n ∈ zs, (Lit.int k n).wf = true

theorem cons_of {α : Type} {l : List α} {n : Nat} (h : l.length = n + 1) : ∃ c l1, l = c :: l1 ∧ l1.length = n := by
  cases l with
  | nil => cases h
  | cons c l => exact ⟨c, l, rfl, by simpa using h⟩
theorem cells5 : Try.prog.cellsOf 5 = 1 := by kernel_rfl
theorem cells23 : Try.prog.cellsOf 23 = 6 := by kernel_rfl
theorem cells24 : Try.prog.cellsOf 24 = 12 := by kernel_rfl
theorem cells25 : Try.prog.cellsOf 25 = 1 := by kernel_rfl
theorem cells26 : Try.prog.cellsOf 26 = 2 := by kernel_rfl
theorem cells3 : Try.prog.cellsOf 3 = 1 := by kernel_rfl
theorem cells27 : Try.prog.cellsOf 27 = 2 := by kernel_rfl
theorem cells28 : Try.prog.cellsOf 28 = 1 := by kernel_rfl
theorem cells30 : Try.prog.cellsOf 30 = 2 := by kernel_rfl
theorem cells31 : Try.prog.cellsOf 31 = 1 := by kernel_rfl
theorem cells33 : Try.prog.cellsOf 33 = 40 := by kernel_rfl
theorem cells4 : Try.prog.cellsOf 4 = 1 := by kernel_rfl
theorem cells34 : Try.prog.cellsOf 34 = 1 := by kernel_rfl
theorem cells36 : Try.prog.cellsOf 36 = 11 := by kernel_rfl
theorem okArray {P : Program} {w : World} {r : Reach} {base : Nat} {v : Value} {n : Nat} {e t : TypeId} (ht : P.underlying t = some (.array n e)) (h : Value.okWide P w r base t v) : ∃ cs, v = .agg cs ∧ cs.size = P.cellsOf t := by
  simp only [Value.okWide, ht] at h
  obtain ⟨cs, h1, h2, _⟩ := h
  exact ⟨cs, h1, h2⟩
theorem isRow_of {H : Type} {enc : TypeId × Value → H} {P : Program} {W : World} {t e : TypeId} {k : IntKind} {n : Nat} {a : Option Addr} {len cap : Nat} {y : DataW H × List MemPlace} (ht : P.underlying t = some (.slice e)) (he : P.underlying e = some (.int k)) (hc : P.cellsOf e = 1)
    (hf : DataW.trod enc P W 0 (fun _ => true) true n t [.slice a len cap] = some y) : ∃ zs, IsRow k W a len cap zs := by
  rcases open_ints ht he hc hf with ⟨hcs, _⟩ | ⟨x, l, c, zs, hcs, _, hl, hm, hz, _, hcell, hwz⟩
  · simp at hcs
    obtain ⟨rfl, rfl, rfl⟩ := hcs
    exact ⟨[], .inl ⟨rfl, rfl, rfl, rfl⟩⟩
  · simp at hcs
    obtain ⟨rfl, rfl, rfl⟩ := hcs
    exact ⟨zs, .inr ⟨_, rfl, hl, hm, by simpa using hz, hcell, hwz⟩⟩
theorem list40 {α : Type} (l : List α) (h : l.length = 40) : ∃ c0 c1 c2 c3 c4 c5 c6 c7 c8 c9 c10 c11 c12 c13 c14 c15 c16 c17 c18 c19 c20 c21 c22 c23 c24 c25 c26 c27 c28 c29 c30 c31 c32 c33 c34 c35 c36 c37 c38 c39, l = [c0, c1, c2, c3, c4, c5, c6, c7, c8, c9, c10, c11, c12, c13, c14, c15, c16, c17, c18, c19, c20, c21, c22, c23, c24, c25, c26, c27, c28, c29, c30, c31, c32, c33, c34, c35, c36, c37, c38, c39] := by
  obtain ⟨c0, l0, e0, h0⟩ := cons_of h
  obtain ⟨c1, l1, e1, h1⟩ := cons_of h0
  obtain ⟨c2, l2, e2, h2⟩ := cons_of h1
  obtain ⟨c3, l3, e3, h3⟩ := cons_of h2
  obtain ⟨c4, l4, e4, h4⟩ := cons_of h3
  obtain ⟨c5, l5, e5, h5⟩ := cons_of h4
  obtain ⟨c6, l6, e6, h6⟩ := cons_of h5
  obtain ⟨c7, l7, e7, h7⟩ := cons_of h6
  obtain ⟨c8, l8, e8, h8⟩ := cons_of h7
  obtain ⟨c9, l9, e9, h9⟩ := cons_of h8
  obtain ⟨c10, l10, e10, h10⟩ := cons_of h9
  obtain ⟨c11, l11, e11, h11⟩ := cons_of h10
  obtain ⟨c12, l12, e12, h12⟩ := cons_of h11
  obtain ⟨c13, l13, e13, h13⟩ := cons_of h12
  obtain ⟨c14, l14, e14, h14⟩ := cons_of h13
  obtain ⟨c15, l15, e15, h15⟩ := cons_of h14
  obtain ⟨c16, l16, e16, h16⟩ := cons_of h15
  obtain ⟨c17, l17, e17, h17⟩ := cons_of h16
  obtain ⟨c18, l18, e18, h18⟩ := cons_of h17
  obtain ⟨c19, l19, e19, h19⟩ := cons_of h18
  obtain ⟨c20, l20, e20, h20⟩ := cons_of h19
  obtain ⟨c21, l21, e21, h21⟩ := cons_of h20
  obtain ⟨c22, l22, e22, h22⟩ := cons_of h21
  obtain ⟨c23, l23, e23, h23⟩ := cons_of h22
  obtain ⟨c24, l24, e24, h24⟩ := cons_of h23
  obtain ⟨c25, l25, e25, h25⟩ := cons_of h24
  obtain ⟨c26, l26, e26, h26⟩ := cons_of h25
  obtain ⟨c27, l27, e27, h27⟩ := cons_of h26
  obtain ⟨c28, l28, e28, h28⟩ := cons_of h27
  obtain ⟨c29, l29, e29, h29⟩ := cons_of h28
  obtain ⟨c30, l30, e30, h30⟩ := cons_of h29
  obtain ⟨c31, l31, e31, h31⟩ := cons_of h30
  obtain ⟨c32, l32, e32, h32⟩ := cons_of h31
  obtain ⟨c33, l33, e33, h33⟩ := cons_of h32
  obtain ⟨c34, l34, e34, h34⟩ := cons_of h33
  obtain ⟨c35, l35, e35, h35⟩ := cons_of h34
  obtain ⟨c36, l36, e36, h36⟩ := cons_of h35
  obtain ⟨c37, l37, e37, h37⟩ := cons_of h36
  obtain ⟨c38, l38, e38, h38⟩ := cons_of h37
  obtain ⟨c39, l39, e39, h39⟩ := cons_of h38
  have e40 := List.eq_nil_of_length_eq_zero h39
  subst e40 e39 e38 e37 e36 e35 e34 e33 e32 e31 e30 e29 e28 e27 e26 e25 e24 e23 e22 e21 e20 e19 e18 e17 e16 e15 e14 e13 e12 e11 e10 e9 e8 e7 e6 e5 e4 e3 e2 e1 e0
  exact ⟨c0, c1, c2, c3, c4, c5, c6, c7, c8, c9, c10, c11, c12, c13, c14, c15, c16, c17, c18, c19, c20, c21, c22, c23, c24, c25, c26, c27, c28, c29, c30, c31, c32, c33, c34, c35, c36, c37, c38, c39, rfl⟩
set_option maxRecDepth 100000 in
theorem open33 {H : Type} {enc : TypeId × Value → H} {W : World} {base : Nat} {v : Value} {d : DataW H} {p : List MemPlace} (hv : Value.okWide Try.prog W .any base 33 v) (h : DataW.Trod enc Try.prog W 0 (fun _ => true) true 33 v d p) :
    ∃ (ax_0_0_0 : Int) (ax_0_0_1 : Int) (ax_0_0_2 : Int) (ax_0_0_3 : Int) (ax_0_0_4 : Int) (ax_0_0_5 : Int) (ax_0_1_0 : Int) (ax_0_1_1 : Int) (ax_0_1_2 : Int) (ax_0_1_3 : Int) (ax_0_1_4 : Int) (ax_0_1_5 : Int) (ax_1_0 : Int) (ax_1_1 : Int) (ax_2_0 : Int) (ax_2_1 : Int) (ax_3 : Int) (ax_4 : Int) (ax_5_0 : Int) (ax_5_1 : Int) (ax_6_0 : Int) (ax_6_1 : Int) (ax_7 : Int) (ax_8 : Int) (ax_9 : Int) (ax_10 : Int) (ax_11 : Int) (ax_12 : Int) (ax_13 : Int) (ax_14 : Int) (ax_15 : Int) (ax_16 : Int) (ax_17 : Int) (ax_18 : Int) (ax_19 : Int) (ax_20 : Int) (ax_21 : Int) (ax_22 : Int) (ax_23 : Int) (ax_24 : Int), (Lit.int .u8 ax_0_0_0).wf = true ∧ (Lit.int .u8 ax_0_0_1).wf = true ∧ (Lit.int .u8 ax_0_0_2).wf = true ∧ (Lit.int .u8 ax_0_0_3).wf = true ∧ (Lit.int .u8 ax_0_0_4).wf = true ∧ (Lit.int .u8 ax_0_0_5).wf = true ∧ (Lit.int .u8 ax_0_1_0).wf = true ∧ (Lit.int .u8 ax_0_1_1).wf = true ∧ (Lit.int .u8 ax_0_1_2).wf = true ∧ (Lit.int .u8 ax_0_1_3).wf = true ∧ (Lit.int .u8 ax_0_1_4).wf = true ∧ (Lit.int .u8 ax_0_1_5).wf = true ∧ (Lit.int .u32 ax_1_0).wf = true ∧ (Lit.int .u32 ax_1_1).wf = true ∧ (Lit.int .i64 ax_2_0).wf = true ∧ (Lit.int .i64 ax_2_1).wf = true ∧ (Lit.int .u32 ax_3).wf = true ∧ (Lit.int .i64 ax_4).wf = true ∧ (Lit.int .u64 ax_5_0).wf = true ∧ (Lit.int .u64 ax_5_1).wf = true ∧ (Lit.int .u64 ax_6_0).wf = true ∧ (Lit.int .u64 ax_6_1).wf = true ∧ (Lit.int .u16 ax_7).wf = true ∧ (Lit.int .i64 ax_8).wf = true ∧ (Lit.int .i64 ax_9).wf = true ∧ (Lit.int .i64 ax_10).wf = true ∧ (Lit.int .i64 ax_11).wf = true ∧ (Lit.int .i64 ax_12).wf = true ∧ (Lit.int .i64 ax_13).wf = true ∧ (Lit.int .i64 ax_14).wf = true ∧ (Lit.int .i64 ax_15).wf = true ∧ (Lit.int .i64 ax_16).wf = true ∧ (Lit.int .i64 ax_17).wf = true ∧ (Lit.int .i64 ax_18).wf = true ∧ (Lit.int .i64 ax_19).wf = true ∧ (Lit.int .i64 ax_20).wf = true ∧ (Lit.int .i64 ax_21).wf = true ∧ (Lit.int .i64 ax_22).wf = true ∧ (Lit.int .i64 ax_23).wf = true ∧ (Lit.int .i64 ax_24).wf = true ∧ v = .agg #[.int .u8 ax_0_0_0, .int .u8 ax_0_0_1, .int .u8 ax_0_0_2, .int .u8 ax_0_0_3, .int .u8 ax_0_0_4, .int .u8 ax_0_0_5, .int .u8 ax_0_1_0, .int .u8 ax_0_1_1, .int .u8 ax_0_1_2, .int .u8 ax_0_1_3, .int .u8 ax_0_1_4, .int .u8 ax_0_1_5, .int .u32 ax_1_0, .int .u32 ax_1_1, .int .i64 ax_2_0, .int .i64 ax_2_1, .int .u32 ax_3, .int .i64 ax_4, .int .u64 ax_5_0, .int .u64 ax_5_1, .int .u64 ax_6_0, .int .u64 ax_6_1, .int .u16 ax_7, .int .i64 ax_8, .int .i64 ax_9, .int .i64 ax_10, .int .i64 ax_11, .int .i64 ax_12, .int .i64 ax_13, .int .i64 ax_14, .int .i64 ax_15, .int .i64 ax_16, .int .i64 ax_17, .int .i64 ax_18, .int .i64 ax_19, .int .i64 ax_20, .int .i64 ax_21, .int .i64 ax_22, .int .i64 ax_23, .int .i64 ax_24] := by
  obtain ⟨cs, rfl, hsz⟩ := okWide_struct Try.underlying33 hv
  rw [cells33] at hsz
  obtain ⟨l⟩ := cs
  have hsz2 : l.length = 40 := hsz
  obtain ⟨c0, c1, c2, c3, c4, c5, c6, c7, c8, c9, c10, c11, c12, c13, c14, c15, c16, c17, c18, c19, c20, c21, c22, c23, c24, c25, c26, c27, c28, c29, c30, c31, c32, c33, c34, c35, c36, c37, c38, c39, rfl⟩ := list40 l hsz2
  obtain ⟨fuel, hf⟩ := h
  have hf : DataW.trod enc Try.prog W 0 (fun _ => true) true fuel 33 [c0, c1, c2, c3, c4, c5, c6, c7, c8, c9, c10, c11, c12, c13, c14, c15, c16, c17, c18, c19, c20, c21, c22, c23, c24, c25, c26, c27, c28, c29, c30, c31, c32, c33, c34, c35, c36, c37, c38, c39] = some (d, p) := hf
  obtain ⟨xs0, n0, -, -, -, hl0, hx0⟩ := DataW.trod_struct Try.underlying33 hf
  obtain ⟨y0_0, hy0_0⟩ : ∃ y, xs0[0]? = some y := ⟨_, List.getElem?_eq_getElem (by rw [hl0]; decide)⟩
  have g0_0 : DataW.trod enc Try.prog W 0 (fun _ => true) true n0 24 [c0, c1, c2, c3, c4, c5, c6, c7, c8, c9, c10, c11] = some y0_0 := by
    have g0 := hx0 0 _ rfl
    rw [hy0_0] at g0
    simpa [Value.cells, cells24] using g0
  obtain ⟨y0_1, hy0_1⟩ : ∃ y, xs0[1]? = some y := ⟨_, List.getElem?_eq_getElem (by rw [hl0]; decide)⟩
  have g0_1 : DataW.trod enc Try.prog W 0 (fun _ => true) true n0 26 [c12, c13] = some y0_1 := by
    have g0 := hx0 1 _ rfl
    rw [hy0_1] at g0
    simpa [Value.cells, cells26] using g0
  obtain ⟨y0_2, hy0_2⟩ : ∃ y, xs0[2]? = some y := ⟨_, List.getElem?_eq_getElem (by rw [hl0]; decide)⟩
  have g0_2 : DataW.trod enc Try.prog W 0 (fun _ => true) true n0 27 [c14, c15] = some y0_2 := by
    have g0 := hx0 2 _ rfl
    rw [hy0_2] at g0
    simpa [Value.cells, cells27] using g0
  obtain ⟨y0_3, hy0_3⟩ : ∃ y, xs0[3]? = some y := ⟨_, List.getElem?_eq_getElem (by rw [hl0]; decide)⟩
  have g0_3 : DataW.trod enc Try.prog W 0 (fun _ => true) true n0 25 [c16] = some y0_3 := by
    have g0 := hx0 3 _ rfl
    rw [hy0_3] at g0
    simpa [Value.cells, cells25] using g0
  obtain ⟨y0_4, hy0_4⟩ : ∃ y, xs0[4]? = some y := ⟨_, List.getElem?_eq_getElem (by rw [hl0]; decide)⟩
  have g0_4 : DataW.trod enc Try.prog W 0 (fun _ => true) true n0 3 [c17] = some y0_4 := by
    have g0 := hx0 4 _ rfl
    rw [hy0_4] at g0
    simpa [Value.cells, cells3] using g0
  obtain ⟨y0_5, hy0_5⟩ : ∃ y, xs0[5]? = some y := ⟨_, List.getElem?_eq_getElem (by rw [hl0]; decide)⟩
  have g0_5 : DataW.trod enc Try.prog W 0 (fun _ => true) true n0 30 [c18, c19] = some y0_5 := by
    have g0 := hx0 5 _ rfl
    rw [hy0_5] at g0
    simpa [Value.cells, cells30] using g0
  obtain ⟨y0_6, hy0_6⟩ : ∃ y, xs0[6]? = some y := ⟨_, List.getElem?_eq_getElem (by rw [hl0]; decide)⟩
  have g0_6 : DataW.trod enc Try.prog W 0 (fun _ => true) true n0 30 [c20, c21] = some y0_6 := by
    have g0 := hx0 6 _ rfl
    rw [hy0_6] at g0
    simpa [Value.cells, cells30] using g0
  obtain ⟨y0_7, hy0_7⟩ : ∃ y, xs0[7]? = some y := ⟨_, List.getElem?_eq_getElem (by rw [hl0]; decide)⟩
  have g0_7 : DataW.trod enc Try.prog W 0 (fun _ => true) true n0 31 [c22] = some y0_7 := by
    have g0 := hx0 7 _ rfl
    rw [hy0_7] at g0
    simpa [Value.cells, cells31] using g0
  obtain ⟨y0_8, hy0_8⟩ : ∃ y, xs0[8]? = some y := ⟨_, List.getElem?_eq_getElem (by rw [hl0]; decide)⟩
  have g0_8 : DataW.trod enc Try.prog W 0 (fun _ => true) true n0 3 [c23] = some y0_8 := by
    have g0 := hx0 8 _ rfl
    rw [hy0_8] at g0
    simpa [Value.cells, cells3] using g0
  obtain ⟨y0_9, hy0_9⟩ : ∃ y, xs0[9]? = some y := ⟨_, List.getElem?_eq_getElem (by rw [hl0]; decide)⟩
  have g0_9 : DataW.trod enc Try.prog W 0 (fun _ => true) true n0 3 [c24] = some y0_9 := by
    have g0 := hx0 9 _ rfl
    rw [hy0_9] at g0
    simpa [Value.cells, cells3] using g0
  obtain ⟨y0_10, hy0_10⟩ : ∃ y, xs0[10]? = some y := ⟨_, List.getElem?_eq_getElem (by rw [hl0]; decide)⟩
  have g0_10 : DataW.trod enc Try.prog W 0 (fun _ => true) true n0 3 [c25] = some y0_10 := by
    have g0 := hx0 10 _ rfl
    rw [hy0_10] at g0
    simpa [Value.cells, cells3] using g0
  obtain ⟨y0_11, hy0_11⟩ : ∃ y, xs0[11]? = some y := ⟨_, List.getElem?_eq_getElem (by rw [hl0]; decide)⟩
  have g0_11 : DataW.trod enc Try.prog W 0 (fun _ => true) true n0 3 [c26] = some y0_11 := by
    have g0 := hx0 11 _ rfl
    rw [hy0_11] at g0
    simpa [Value.cells, cells3] using g0
  obtain ⟨y0_12, hy0_12⟩ : ∃ y, xs0[12]? = some y := ⟨_, List.getElem?_eq_getElem (by rw [hl0]; decide)⟩
  have g0_12 : DataW.trod enc Try.prog W 0 (fun _ => true) true n0 3 [c27] = some y0_12 := by
    have g0 := hx0 12 _ rfl
    rw [hy0_12] at g0
    simpa [Value.cells, cells3] using g0
  obtain ⟨y0_13, hy0_13⟩ : ∃ y, xs0[13]? = some y := ⟨_, List.getElem?_eq_getElem (by rw [hl0]; decide)⟩
  have g0_13 : DataW.trod enc Try.prog W 0 (fun _ => true) true n0 3 [c28] = some y0_13 := by
    have g0 := hx0 13 _ rfl
    rw [hy0_13] at g0
    simpa [Value.cells, cells3] using g0
  obtain ⟨y0_14, hy0_14⟩ : ∃ y, xs0[14]? = some y := ⟨_, List.getElem?_eq_getElem (by rw [hl0]; decide)⟩
  have g0_14 : DataW.trod enc Try.prog W 0 (fun _ => true) true n0 3 [c29] = some y0_14 := by
    have g0 := hx0 14 _ rfl
    rw [hy0_14] at g0
    simpa [Value.cells, cells3] using g0
  obtain ⟨y0_15, hy0_15⟩ : ∃ y, xs0[15]? = some y := ⟨_, List.getElem?_eq_getElem (by rw [hl0]; decide)⟩
  have g0_15 : DataW.trod enc Try.prog W 0 (fun _ => true) true n0 3 [c30] = some y0_15 := by
    have g0 := hx0 15 _ rfl
    rw [hy0_15] at g0
    simpa [Value.cells, cells3] using g0
  obtain ⟨y0_16, hy0_16⟩ : ∃ y, xs0[16]? = some y := ⟨_, List.getElem?_eq_getElem (by rw [hl0]; decide)⟩
  have g0_16 : DataW.trod enc Try.prog W 0 (fun _ => true) true n0 3 [c31] = some y0_16 := by
    have g0 := hx0 16 _ rfl
    rw [hy0_16] at g0
    simpa [Value.cells, cells3] using g0
  obtain ⟨y0_17, hy0_17⟩ : ∃ y, xs0[17]? = some y := ⟨_, List.getElem?_eq_getElem (by rw [hl0]; decide)⟩
  have g0_17 : DataW.trod enc Try.prog W 0 (fun _ => true) true n0 3 [c32] = some y0_17 := by
    have g0 := hx0 17 _ rfl
    rw [hy0_17] at g0
    simpa [Value.cells, cells3] using g0
  obtain ⟨y0_18, hy0_18⟩ : ∃ y, xs0[18]? = some y := ⟨_, List.getElem?_eq_getElem (by rw [hl0]; decide)⟩
  have g0_18 : DataW.trod enc Try.prog W 0 (fun _ => true) true n0 3 [c33] = some y0_18 := by
    have g0 := hx0 18 _ rfl
    rw [hy0_18] at g0
    simpa [Value.cells, cells3] using g0
  obtain ⟨y0_19, hy0_19⟩ : ∃ y, xs0[19]? = some y := ⟨_, List.getElem?_eq_getElem (by rw [hl0]; decide)⟩
  have g0_19 : DataW.trod enc Try.prog W 0 (fun _ => true) true n0 3 [c34] = some y0_19 := by
    have g0 := hx0 19 _ rfl
    rw [hy0_19] at g0
    simpa [Value.cells, cells3] using g0
  obtain ⟨y0_20, hy0_20⟩ : ∃ y, xs0[20]? = some y := ⟨_, List.getElem?_eq_getElem (by rw [hl0]; decide)⟩
  have g0_20 : DataW.trod enc Try.prog W 0 (fun _ => true) true n0 3 [c35] = some y0_20 := by
    have g0 := hx0 20 _ rfl
    rw [hy0_20] at g0
    simpa [Value.cells, cells3] using g0
  obtain ⟨y0_21, hy0_21⟩ : ∃ y, xs0[21]? = some y := ⟨_, List.getElem?_eq_getElem (by rw [hl0]; decide)⟩
  have g0_21 : DataW.trod enc Try.prog W 0 (fun _ => true) true n0 3 [c36] = some y0_21 := by
    have g0 := hx0 21 _ rfl
    rw [hy0_21] at g0
    simpa [Value.cells, cells3] using g0
  obtain ⟨y0_22, hy0_22⟩ : ∃ y, xs0[22]? = some y := ⟨_, List.getElem?_eq_getElem (by rw [hl0]; decide)⟩
  have g0_22 : DataW.trod enc Try.prog W 0 (fun _ => true) true n0 3 [c37] = some y0_22 := by
    have g0 := hx0 22 _ rfl
    rw [hy0_22] at g0
    simpa [Value.cells, cells3] using g0
  obtain ⟨y0_23, hy0_23⟩ : ∃ y, xs0[23]? = some y := ⟨_, List.getElem?_eq_getElem (by rw [hl0]; decide)⟩
  have g0_23 : DataW.trod enc Try.prog W 0 (fun _ => true) true n0 3 [c38] = some y0_23 := by
    have g0 := hx0 23 _ rfl
    rw [hy0_23] at g0
    simpa [Value.cells, cells3] using g0
  obtain ⟨y0_24, hy0_24⟩ : ∃ y, xs0[24]? = some y := ⟨_, List.getElem?_eq_getElem (by rw [hl0]; decide)⟩
  have g0_24 : DataW.trod enc Try.prog W 0 (fun _ => true) true n0 3 [c39] = some y0_24 := by
    have g0 := hx0 24 _ rfl
    rw [hy0_24] at g0
    simpa [Value.cells, cells3] using g0
  clear hf hx0
  obtain ⟨xs1, n1, -, -, -, hl1, hx1⟩ := DataW.trod_array Try.underlying24 g0_0
  obtain ⟨y1_0, hy1_0⟩ : ∃ y, xs1[0]? = some y := ⟨_, List.getElem?_eq_getElem (by rw [hl1]; decide)⟩
  have g1_0 : DataW.trod enc Try.prog W 0 (fun _ => true) true n1 23 [c0, c1, c2, c3, c4, c5] = some y1_0 := by
    have g0 := hx1 0 (by decide)
    rw [hy1_0] at g0
    simpa [Value.cells, cells23] using g0
  obtain ⟨y1_1, hy1_1⟩ : ∃ y, xs1[1]? = some y := ⟨_, List.getElem?_eq_getElem (by rw [hl1]; decide)⟩
  have g1_1 : DataW.trod enc Try.prog W 0 (fun _ => true) true n1 23 [c6, c7, c8, c9, c10, c11] = some y1_1 := by
    have g0 := hx1 1 (by decide)
    rw [hy1_1] at g0
    simpa [Value.cells, cells23] using g0
  clear g0_0 hx1
  obtain ⟨xs2, n2, -, -, -, hl2, hx2⟩ := DataW.trod_array Try.underlying23 g1_0
  obtain ⟨y2_0, hy2_0⟩ : ∃ y, xs2[0]? = some y := ⟨_, List.getElem?_eq_getElem (by rw [hl2]; decide)⟩
  have g2_0 : DataW.trod enc Try.prog W 0 (fun _ => true) true n2 5 [c0] = some y2_0 := by
    have g0 := hx2 0 (by decide)
    rw [hy2_0] at g0
    simpa [Value.cells, cells5] using g0
  obtain ⟨y2_1, hy2_1⟩ : ∃ y, xs2[1]? = some y := ⟨_, List.getElem?_eq_getElem (by rw [hl2]; decide)⟩
  have g2_1 : DataW.trod enc Try.prog W 0 (fun _ => true) true n2 5 [c1] = some y2_1 := by
    have g0 := hx2 1 (by decide)
    rw [hy2_1] at g0
    simpa [Value.cells, cells5] using g0
  obtain ⟨y2_2, hy2_2⟩ : ∃ y, xs2[2]? = some y := ⟨_, List.getElem?_eq_getElem (by rw [hl2]; decide)⟩
  have g2_2 : DataW.trod enc Try.prog W 0 (fun _ => true) true n2 5 [c2] = some y2_2 := by
    have g0 := hx2 2 (by decide)
    rw [hy2_2] at g0
    simpa [Value.cells, cells5] using g0
  obtain ⟨y2_3, hy2_3⟩ : ∃ y, xs2[3]? = some y := ⟨_, List.getElem?_eq_getElem (by rw [hl2]; decide)⟩
  have g2_3 : DataW.trod enc Try.prog W 0 (fun _ => true) true n2 5 [c3] = some y2_3 := by
    have g0 := hx2 3 (by decide)
    rw [hy2_3] at g0
    simpa [Value.cells, cells5] using g0
  obtain ⟨y2_4, hy2_4⟩ : ∃ y, xs2[4]? = some y := ⟨_, List.getElem?_eq_getElem (by rw [hl2]; decide)⟩
  have g2_4 : DataW.trod enc Try.prog W 0 (fun _ => true) true n2 5 [c4] = some y2_4 := by
    have g0 := hx2 4 (by decide)
    rw [hy2_4] at g0
    simpa [Value.cells, cells5] using g0
  obtain ⟨y2_5, hy2_5⟩ : ∃ y, xs2[5]? = some y := ⟨_, List.getElem?_eq_getElem (by rw [hl2]; decide)⟩
  have g2_5 : DataW.trod enc Try.prog W 0 (fun _ => true) true n2 5 [c5] = some y2_5 := by
    have g0 := hx2 5 (by decide)
    rw [hy2_5] at g0
    simpa [Value.cells, cells5] using g0
  clear g1_0 hx2
  obtain ⟨ax_0_0_0, ex_0_0_0, -, wx_0_0_0⟩ := DataW.trod_int Try.underlying5 g2_0
  obtain rfl : c0 = .int .u8 ax_0_0_0 := by simpa using ex_0_0_0
  clear g2_0 ex_0_0_0
  obtain ⟨ax_0_0_1, ex_0_0_1, -, wx_0_0_1⟩ := DataW.trod_int Try.underlying5 g2_1
  obtain rfl : c1 = .int .u8 ax_0_0_1 := by simpa using ex_0_0_1
  clear g2_1 ex_0_0_1
  obtain ⟨ax_0_0_2, ex_0_0_2, -, wx_0_0_2⟩ := DataW.trod_int Try.underlying5 g2_2
  obtain rfl : c2 = .int .u8 ax_0_0_2 := by simpa using ex_0_0_2
  clear g2_2 ex_0_0_2
  obtain ⟨ax_0_0_3, ex_0_0_3, -, wx_0_0_3⟩ := DataW.trod_int Try.underlying5 g2_3
  obtain rfl : c3 = .int .u8 ax_0_0_3 := by simpa using ex_0_0_3
  clear g2_3 ex_0_0_3
  obtain ⟨ax_0_0_4, ex_0_0_4, -, wx_0_0_4⟩ := DataW.trod_int Try.underlying5 g2_4
  obtain rfl : c4 = .int .u8 ax_0_0_4 := by simpa using ex_0_0_4
  clear g2_4 ex_0_0_4
  obtain ⟨ax_0_0_5, ex_0_0_5, -, wx_0_0_5⟩ := DataW.trod_int Try.underlying5 g2_5
  obtain rfl : c5 = .int .u8 ax_0_0_5 := by simpa using ex_0_0_5
  clear g2_5 ex_0_0_5
  obtain ⟨xs3, n3, -, -, -, hl3, hx3⟩ := DataW.trod_array Try.underlying23 g1_1
  obtain ⟨y3_0, hy3_0⟩ : ∃ y, xs3[0]? = some y := ⟨_, List.getElem?_eq_getElem (by rw [hl3]; decide)⟩
  have g3_0 : DataW.trod enc Try.prog W 0 (fun _ => true) true n3 5 [c6] = some y3_0 := by
    have g0 := hx3 0 (by decide)
    rw [hy3_0] at g0
    simpa [Value.cells, cells5] using g0
  obtain ⟨y3_1, hy3_1⟩ : ∃ y, xs3[1]? = some y := ⟨_, List.getElem?_eq_getElem (by rw [hl3]; decide)⟩
  have g3_1 : DataW.trod enc Try.prog W 0 (fun _ => true) true n3 5 [c7] = some y3_1 := by
    have g0 := hx3 1 (by decide)
    rw [hy3_1] at g0
    simpa [Value.cells, cells5] using g0
  obtain ⟨y3_2, hy3_2⟩ : ∃ y, xs3[2]? = some y := ⟨_, List.getElem?_eq_getElem (by rw [hl3]; decide)⟩
  have g3_2 : DataW.trod enc Try.prog W 0 (fun _ => true) true n3 5 [c8] = some y3_2 := by
    have g0 := hx3 2 (by decide)
    rw [hy3_2] at g0
    simpa [Value.cells, cells5] using g0
  obtain ⟨y3_3, hy3_3⟩ : ∃ y, xs3[3]? = some y := ⟨_, List.getElem?_eq_getElem (by rw [hl3]; decide)⟩
  have g3_3 : DataW.trod enc Try.prog W 0 (fun _ => true) true n3 5 [c9] = some y3_3 := by
    have g0 := hx3 3 (by decide)
    rw [hy3_3] at g0
    simpa [Value.cells, cells5] using g0
  obtain ⟨y3_4, hy3_4⟩ : ∃ y, xs3[4]? = some y := ⟨_, List.getElem?_eq_getElem (by rw [hl3]; decide)⟩
  have g3_4 : DataW.trod enc Try.prog W 0 (fun _ => true) true n3 5 [c10] = some y3_4 := by
    have g0 := hx3 4 (by decide)
    rw [hy3_4] at g0
    simpa [Value.cells, cells5] using g0
  obtain ⟨y3_5, hy3_5⟩ : ∃ y, xs3[5]? = some y := ⟨_, List.getElem?_eq_getElem (by rw [hl3]; decide)⟩
  have g3_5 : DataW.trod enc Try.prog W 0 (fun _ => true) true n3 5 [c11] = some y3_5 := by
    have g0 := hx3 5 (by decide)
    rw [hy3_5] at g0
    simpa [Value.cells, cells5] using g0
  clear g1_1 hx3
  obtain ⟨ax_0_1_0, ex_0_1_0, -, wx_0_1_0⟩ := DataW.trod_int Try.underlying5 g3_0
  obtain rfl : c6 = .int .u8 ax_0_1_0 := by simpa using ex_0_1_0
  clear g3_0 ex_0_1_0
  obtain ⟨ax_0_1_1, ex_0_1_1, -, wx_0_1_1⟩ := DataW.trod_int Try.underlying5 g3_1
  obtain rfl : c7 = .int .u8 ax_0_1_1 := by simpa using ex_0_1_1
  clear g3_1 ex_0_1_1
  obtain ⟨ax_0_1_2, ex_0_1_2, -, wx_0_1_2⟩ := DataW.trod_int Try.underlying5 g3_2
  obtain rfl : c8 = .int .u8 ax_0_1_2 := by simpa using ex_0_1_2
  clear g3_2 ex_0_1_2
  obtain ⟨ax_0_1_3, ex_0_1_3, -, wx_0_1_3⟩ := DataW.trod_int Try.underlying5 g3_3
  obtain rfl : c9 = .int .u8 ax_0_1_3 := by simpa using ex_0_1_3
  clear g3_3 ex_0_1_3
  obtain ⟨ax_0_1_4, ex_0_1_4, -, wx_0_1_4⟩ := DataW.trod_int Try.underlying5 g3_4
  obtain rfl : c10 = .int .u8 ax_0_1_4 := by simpa using ex_0_1_4
  clear g3_4 ex_0_1_4
  obtain ⟨ax_0_1_5, ex_0_1_5, -, wx_0_1_5⟩ := DataW.trod_int Try.underlying5 g3_5
  obtain rfl : c11 = .int .u8 ax_0_1_5 := by simpa using ex_0_1_5
  clear g3_5 ex_0_1_5
  obtain ⟨xs4, n4, -, -, -, hl4, hx4⟩ := DataW.trod_array Try.underlying26 g0_1
  obtain ⟨y4_0, hy4_0⟩ : ∃ y, xs4[0]? = some y := ⟨_, List.getElem?_eq_getElem (by rw [hl4]; decide)⟩
  have g4_0 : DataW.trod enc Try.prog W 0 (fun _ => true) true n4 25 [c12] = some y4_0 := by
    have g0 := hx4 0 (by decide)
    rw [hy4_0] at g0
    simpa [Value.cells, cells25] using g0
  obtain ⟨y4_1, hy4_1⟩ : ∃ y, xs4[1]? = some y := ⟨_, List.getElem?_eq_getElem (by rw [hl4]; decide)⟩
  have g4_1 : DataW.trod enc Try.prog W 0 (fun _ => true) true n4 25 [c13] = some y4_1 := by
    have g0 := hx4 1 (by decide)
    rw [hy4_1] at g0
    simpa [Value.cells, cells25] using g0
  clear g0_1 hx4
  obtain ⟨ax_1_0, ex_1_0, -, wx_1_0⟩ := DataW.trod_int Try.underlying25 g4_0
  obtain rfl : c12 = .int .u32 ax_1_0 := by simpa using ex_1_0
  clear g4_0 ex_1_0
  obtain ⟨ax_1_1, ex_1_1, -, wx_1_1⟩ := DataW.trod_int Try.underlying25 g4_1
  obtain rfl : c13 = .int .u32 ax_1_1 := by simpa using ex_1_1
  clear g4_1 ex_1_1
  obtain ⟨xs5, n5, -, -, -, hl5, hx5⟩ := DataW.trod_array Try.underlying27 g0_2
  obtain ⟨y5_0, hy5_0⟩ : ∃ y, xs5[0]? = some y := ⟨_, List.getElem?_eq_getElem (by rw [hl5]; decide)⟩
  have g5_0 : DataW.trod enc Try.prog W 0 (fun _ => true) true n5 3 [c14] = some y5_0 := by
    have g0 := hx5 0 (by decide)
    rw [hy5_0] at g0
    simpa [Value.cells, cells3] using g0
  obtain ⟨y5_1, hy5_1⟩ : ∃ y, xs5[1]? = some y := ⟨_, List.getElem?_eq_getElem (by rw [hl5]; decide)⟩
  have g5_1 : DataW.trod enc Try.prog W 0 (fun _ => true) true n5 3 [c15] = some y5_1 := by
    have g0 := hx5 1 (by decide)
    rw [hy5_1] at g0
    simpa [Value.cells, cells3] using g0
  clear g0_2 hx5
  obtain ⟨ax_2_0, ex_2_0, -, wx_2_0⟩ := DataW.trod_int Try.underlying3 g5_0
  obtain rfl : c14 = .int .i64 ax_2_0 := by simpa using ex_2_0
  clear g5_0 ex_2_0
  obtain ⟨ax_2_1, ex_2_1, -, wx_2_1⟩ := DataW.trod_int Try.underlying3 g5_1
  obtain rfl : c15 = .int .i64 ax_2_1 := by simpa using ex_2_1
  clear g5_1 ex_2_1
  obtain ⟨ax_3, ex_3, -, wx_3⟩ := DataW.trod_int Try.underlying25 g0_3
  obtain rfl : c16 = .int .u32 ax_3 := by simpa using ex_3
  clear g0_3 ex_3
  obtain ⟨ax_4, ex_4, -, wx_4⟩ := DataW.trod_int Try.underlying3 g0_4
  obtain rfl : c17 = .int .i64 ax_4 := by simpa using ex_4
  clear g0_4 ex_4
  obtain ⟨xs6, n6, -, -, -, hl6, hx6⟩ := DataW.trod_struct Try.underlying30 g0_5
  obtain ⟨y6_0, hy6_0⟩ : ∃ y, xs6[0]? = some y := ⟨_, List.getElem?_eq_getElem (by rw [hl6]; decide)⟩
  have g6_0 : DataW.trod enc Try.prog W 0 (fun _ => true) true n6 28 [c18] = some y6_0 := by
    have g0 := hx6 0 _ rfl
    rw [hy6_0] at g0
    simpa [Value.cells, cells28] using g0
  obtain ⟨y6_1, hy6_1⟩ : ∃ y, xs6[1]? = some y := ⟨_, List.getElem?_eq_getElem (by rw [hl6]; decide)⟩
  have g6_1 : DataW.trod enc Try.prog W 0 (fun _ => true) true n6 28 [c19] = some y6_1 := by
    have g0 := hx6 1 _ rfl
    rw [hy6_1] at g0
    simpa [Value.cells, cells28] using g0
  clear g0_5 hx6
  obtain ⟨ax_5_0, ex_5_0, -, wx_5_0⟩ := DataW.trod_int Try.underlying28 g6_0
  obtain rfl : c18 = .int .u64 ax_5_0 := by simpa using ex_5_0
  clear g6_0 ex_5_0
  obtain ⟨ax_5_1, ex_5_1, -, wx_5_1⟩ := DataW.trod_int Try.underlying28 g6_1
  obtain rfl : c19 = .int .u64 ax_5_1 := by simpa using ex_5_1
  clear g6_1 ex_5_1
  obtain ⟨xs7, n7, -, -, -, hl7, hx7⟩ := DataW.trod_struct Try.underlying30 g0_6
  obtain ⟨y7_0, hy7_0⟩ : ∃ y, xs7[0]? = some y := ⟨_, List.getElem?_eq_getElem (by rw [hl7]; decide)⟩
  have g7_0 : DataW.trod enc Try.prog W 0 (fun _ => true) true n7 28 [c20] = some y7_0 := by
    have g0 := hx7 0 _ rfl
    rw [hy7_0] at g0
    simpa [Value.cells, cells28] using g0
  obtain ⟨y7_1, hy7_1⟩ : ∃ y, xs7[1]? = some y := ⟨_, List.getElem?_eq_getElem (by rw [hl7]; decide)⟩
  have g7_1 : DataW.trod enc Try.prog W 0 (fun _ => true) true n7 28 [c21] = some y7_1 := by
    have g0 := hx7 1 _ rfl
    rw [hy7_1] at g0
    simpa [Value.cells, cells28] using g0
  clear g0_6 hx7
  obtain ⟨ax_6_0, ex_6_0, -, wx_6_0⟩ := DataW.trod_int Try.underlying28 g7_0
  obtain rfl : c20 = .int .u64 ax_6_0 := by simpa using ex_6_0
  clear g7_0 ex_6_0
  obtain ⟨ax_6_1, ex_6_1, -, wx_6_1⟩ := DataW.trod_int Try.underlying28 g7_1
  obtain rfl : c21 = .int .u64 ax_6_1 := by simpa using ex_6_1
  clear g7_1 ex_6_1
  obtain ⟨ax_7, ex_7, -, wx_7⟩ := DataW.trod_int Try.underlying31 g0_7
  obtain rfl : c22 = .int .u16 ax_7 := by simpa using ex_7
  clear g0_7 ex_7
  obtain ⟨ax_8, ex_8, -, wx_8⟩ := DataW.trod_int Try.underlying3 g0_8
  obtain rfl : c23 = .int .i64 ax_8 := by simpa using ex_8
  clear g0_8 ex_8
  obtain ⟨ax_9, ex_9, -, wx_9⟩ := DataW.trod_int Try.underlying3 g0_9
  obtain rfl : c24 = .int .i64 ax_9 := by simpa using ex_9
  clear g0_9 ex_9
  obtain ⟨ax_10, ex_10, -, wx_10⟩ := DataW.trod_int Try.underlying3 g0_10
  obtain rfl : c25 = .int .i64 ax_10 := by simpa using ex_10
  clear g0_10 ex_10
  obtain ⟨ax_11, ex_11, -, wx_11⟩ := DataW.trod_int Try.underlying3 g0_11
  obtain rfl : c26 = .int .i64 ax_11 := by simpa using ex_11
  clear g0_11 ex_11
  obtain ⟨ax_12, ex_12, -, wx_12⟩ := DataW.trod_int Try.underlying3 g0_12
  obtain rfl : c27 = .int .i64 ax_12 := by simpa using ex_12
  clear g0_12 ex_12
  obtain ⟨ax_13, ex_13, -, wx_13⟩ := DataW.trod_int Try.underlying3 g0_13
  obtain rfl : c28 = .int .i64 ax_13 := by simpa using ex_13
  clear g0_13 ex_13
  obtain ⟨ax_14, ex_14, -, wx_14⟩ := DataW.trod_int Try.underlying3 g0_14
  obtain rfl : c29 = .int .i64 ax_14 := by simpa using ex_14
  clear g0_14 ex_14
  obtain ⟨ax_15, ex_15, -, wx_15⟩ := DataW.trod_int Try.underlying3 g0_15
  obtain rfl : c30 = .int .i64 ax_15 := by simpa using ex_15
  clear g0_15 ex_15
  obtain ⟨ax_16, ex_16, -, wx_16⟩ := DataW.trod_int Try.underlying3 g0_16
  obtain rfl : c31 = .int .i64 ax_16 := by simpa using ex_16
  clear g0_16 ex_16
  obtain ⟨ax_17, ex_17, -, wx_17⟩ := DataW.trod_int Try.underlying3 g0_17
  obtain rfl : c32 = .int .i64 ax_17 := by simpa using ex_17
  clear g0_17 ex_17
  obtain ⟨ax_18, ex_18, -, wx_18⟩ := DataW.trod_int Try.underlying3 g0_18
  obtain rfl : c33 = .int .i64 ax_18 := by simpa using ex_18
  clear g0_18 ex_18
  obtain ⟨ax_19, ex_19, -, wx_19⟩ := DataW.trod_int Try.underlying3 g0_19
  obtain rfl : c34 = .int .i64 ax_19 := by simpa using ex_19
  clear g0_19 ex_19
  obtain ⟨ax_20, ex_20, -, wx_20⟩ := DataW.trod_int Try.underlying3 g0_20
  obtain rfl : c35 = .int .i64 ax_20 := by simpa using ex_20
  clear g0_20 ex_20
  obtain ⟨ax_21, ex_21, -, wx_21⟩ := DataW.trod_int Try.underlying3 g0_21
  obtain rfl : c36 = .int .i64 ax_21 := by simpa using ex_21
  clear g0_21 ex_21
  obtain ⟨ax_22, ex_22, -, wx_22⟩ := DataW.trod_int Try.underlying3 g0_22
  obtain rfl : c37 = .int .i64 ax_22 := by simpa using ex_22
  clear g0_22 ex_22
  obtain ⟨ax_23, ex_23, -, wx_23⟩ := DataW.trod_int Try.underlying3 g0_23
  obtain rfl : c38 = .int .i64 ax_23 := by simpa using ex_23
  clear g0_23 ex_23
  obtain ⟨ax_24, ex_24, -, wx_24⟩ := DataW.trod_int Try.underlying3 g0_24
  obtain rfl : c39 = .int .i64 ax_24 := by simpa using ex_24
  clear g0_24 ex_24
  exact ⟨ax_0_0_0, ax_0_0_1, ax_0_0_2, ax_0_0_3, ax_0_0_4, ax_0_0_5, ax_0_1_0, ax_0_1_1, ax_0_1_2, ax_0_1_3, ax_0_1_4, ax_0_1_5, ax_1_0, ax_1_1, ax_2_0, ax_2_1, ax_3, ax_4, ax_5_0, ax_5_1, ax_6_0, ax_6_1, ax_7, ax_8, ax_9, ax_10, ax_11, ax_12, ax_13, ax_14, ax_15, ax_16, ax_17, ax_18, ax_19, ax_20, ax_21, ax_22, ax_23, ax_24, wx_0_0_0, wx_0_0_1, wx_0_0_2, wx_0_0_3, wx_0_0_4, wx_0_0_5, wx_0_1_0, wx_0_1_1, wx_0_1_2, wx_0_1_3, wx_0_1_4, wx_0_1_5, wx_1_0, wx_1_1, wx_2_0, wx_2_1, wx_3, wx_4, wx_5_0, wx_5_1, wx_6_0, wx_6_1, wx_7, wx_8, wx_9, wx_10, wx_11, wx_12, wx_13, wx_14, wx_15, wx_16, wx_17, wx_18, wx_19, wx_20, wx_21, wx_22, wx_23, wx_24, rfl⟩
theorem list11 {α : Type} (l : List α) (h : l.length = 11) : ∃ c0 c1 c2 c3 c4 c5 c6 c7 c8 c9 c10, l = [c0, c1, c2, c3, c4, c5, c6, c7, c8, c9, c10] := by
  obtain ⟨c0, l0, e0, h0⟩ := cons_of h
  obtain ⟨c1, l1, e1, h1⟩ := cons_of h0
  obtain ⟨c2, l2, e2, h2⟩ := cons_of h1
  obtain ⟨c3, l3, e3, h3⟩ := cons_of h2
  obtain ⟨c4, l4, e4, h4⟩ := cons_of h3
  obtain ⟨c5, l5, e5, h5⟩ := cons_of h4
  obtain ⟨c6, l6, e6, h6⟩ := cons_of h5
  obtain ⟨c7, l7, e7, h7⟩ := cons_of h6
  obtain ⟨c8, l8, e8, h8⟩ := cons_of h7
  obtain ⟨c9, l9, e9, h9⟩ := cons_of h8
  obtain ⟨c10, l10, e10, h10⟩ := cons_of h9
  have e11 := List.eq_nil_of_length_eq_zero h10
  subst e11 e10 e9 e8 e7 e6 e5 e4 e3 e2 e1 e0
  exact ⟨c0, c1, c2, c3, c4, c5, c6, c7, c8, c9, c10, rfl⟩
set_option maxRecDepth 100000 in
theorem open36 {H : Type} {enc : TypeId × Value → H} {W : World} {base : Nat} {v : Value} {d : DataW H} {p : List MemPlace} (hv : Value.okWide Try.prog W .any base 36 v) (h : DataW.Trod enc Try.prog W 0 (fun _ => true) true 36 v d p) :
    ∃ (ax_0 : Int) (ax_1 : Int) (ax_2 : Bool) (ax_3 : Bool) (ax_4 : Int) (ax_5 : Int) (ax_6 : Int) (ax_7 : Int) (ax_8 : Int) (ax_9 : Option Addr) (lenx_9 capx_9 : Nat) (zx_9 : List Int) (ax_10 : Option Addr) (lenx_10 capx_10 : Nat) (zx_10 : List Int), (Lit.int .u8 ax_0).wf = true ∧ (Lit.int .u16 ax_1).wf = true ∧ (Lit.int .u16 ax_4).wf = true ∧ (Lit.int .u8 ax_5).wf = true ∧ (Lit.int .u8 ax_6).wf = true ∧ (Lit.int .u32 ax_7).wf = true ∧ (Lit.int .u32 ax_8).wf = true ∧ IsRow .u8 W ax_9 lenx_9 capx_9 zx_9 ∧ IsRow .u8 W ax_10 lenx_10 capx_10 zx_10 ∧ v = .agg #[.int .u8 ax_0, .int .u16 ax_1, .bool ax_2, .bool ax_3, .int .u16 ax_4, .int .u8 ax_5, .int .u8 ax_6, .int .u32 ax_7, .int .u32 ax_8, .slice ax_9 lenx_9 capx_9, .slice ax_10 lenx_10 capx_10] := by
  obtain ⟨cs, rfl, hsz⟩ := okWide_struct Try.underlying36 hv
  rw [cells36] at hsz
  obtain ⟨l⟩ := cs
  have hsz2 : l.length = 11 := hsz
  obtain ⟨c0, c1, c2, c3, c4, c5, c6, c7, c8, c9, c10, rfl⟩ := list11 l hsz2
  obtain ⟨fuel, hf⟩ := h
  have hf : DataW.trod enc Try.prog W 0 (fun _ => true) true fuel 36 [c0, c1, c2, c3, c4, c5, c6, c7, c8, c9, c10] = some (d, p) := hf
  obtain ⟨xs8, n8, -, -, -, hl8, hx8⟩ := DataW.trod_struct Try.underlying36 hf
  obtain ⟨y8_0, hy8_0⟩ : ∃ y, xs8[0]? = some y := ⟨_, List.getElem?_eq_getElem (by rw [hl8]; decide)⟩
  have g8_0 : DataW.trod enc Try.prog W 0 (fun _ => true) true n8 5 [c0] = some y8_0 := by
    have g0 := hx8 0 _ rfl
    rw [hy8_0] at g0
    simpa [Value.cells, cells5] using g0
  obtain ⟨y8_1, hy8_1⟩ : ∃ y, xs8[1]? = some y := ⟨_, List.getElem?_eq_getElem (by rw [hl8]; decide)⟩
  have g8_1 : DataW.trod enc Try.prog W 0 (fun _ => true) true n8 31 [c1] = some y8_1 := by
    have g0 := hx8 1 _ rfl
    rw [hy8_1] at g0
    simpa [Value.cells, cells31] using g0
  obtain ⟨y8_2, hy8_2⟩ : ∃ y, xs8[2]? = some y := ⟨_, List.getElem?_eq_getElem (by rw [hl8]; decide)⟩
  have g8_2 : DataW.trod enc Try.prog W 0 (fun _ => true) true n8 4 [c2] = some y8_2 := by
    have g0 := hx8 2 _ rfl
    rw [hy8_2] at g0
    simpa [Value.cells, cells4] using g0
  obtain ⟨y8_3, hy8_3⟩ : ∃ y, xs8[3]? = some y := ⟨_, List.getElem?_eq_getElem (by rw [hl8]; decide)⟩
  have g8_3 : DataW.trod enc Try.prog W 0 (fun _ => true) true n8 4 [c3] = some y8_3 := by
    have g0 := hx8 3 _ rfl
    rw [hy8_3] at g0
    simpa [Value.cells, cells4] using g0
  obtain ⟨y8_4, hy8_4⟩ : ∃ y, xs8[4]? = some y := ⟨_, List.getElem?_eq_getElem (by rw [hl8]; decide)⟩
  have g8_4 : DataW.trod enc Try.prog W 0 (fun _ => true) true n8 31 [c4] = some y8_4 := by
    have g0 := hx8 4 _ rfl
    rw [hy8_4] at g0
    simpa [Value.cells, cells31] using g0
  obtain ⟨y8_5, hy8_5⟩ : ∃ y, xs8[5]? = some y := ⟨_, List.getElem?_eq_getElem (by rw [hl8]; decide)⟩
  have g8_5 : DataW.trod enc Try.prog W 0 (fun _ => true) true n8 5 [c5] = some y8_5 := by
    have g0 := hx8 5 _ rfl
    rw [hy8_5] at g0
    simpa [Value.cells, cells5] using g0
  obtain ⟨y8_6, hy8_6⟩ : ∃ y, xs8[6]? = some y := ⟨_, List.getElem?_eq_getElem (by rw [hl8]; decide)⟩
  have g8_6 : DataW.trod enc Try.prog W 0 (fun _ => true) true n8 5 [c6] = some y8_6 := by
    have g0 := hx8 6 _ rfl
    rw [hy8_6] at g0
    simpa [Value.cells, cells5] using g0
  obtain ⟨y8_7, hy8_7⟩ : ∃ y, xs8[7]? = some y := ⟨_, List.getElem?_eq_getElem (by rw [hl8]; decide)⟩
  have g8_7 : DataW.trod enc Try.prog W 0 (fun _ => true) true n8 25 [c7] = some y8_7 := by
    have g0 := hx8 7 _ rfl
    rw [hy8_7] at g0
    simpa [Value.cells, cells25] using g0
  obtain ⟨y8_8, hy8_8⟩ : ∃ y, xs8[8]? = some y := ⟨_, List.getElem?_eq_getElem (by rw [hl8]; decide)⟩
  have g8_8 : DataW.trod enc Try.prog W 0 (fun _ => true) true n8 25 [c8] = some y8_8 := by
    have g0 := hx8 8 _ rfl
    rw [hy8_8] at g0
    simpa [Value.cells, cells25] using g0
  obtain ⟨y8_9, hy8_9⟩ : ∃ y, xs8[9]? = some y := ⟨_, List.getElem?_eq_getElem (by rw [hl8]; decide)⟩
  have g8_9 : DataW.trod enc Try.prog W 0 (fun _ => true) true n8 34 [c9] = some y8_9 := by
    have g0 := hx8 9 _ rfl
    rw [hy8_9] at g0
    simpa [Value.cells, cells34] using g0
  obtain ⟨y8_10, hy8_10⟩ : ∃ y, xs8[10]? = some y := ⟨_, List.getElem?_eq_getElem (by rw [hl8]; decide)⟩
  have g8_10 : DataW.trod enc Try.prog W 0 (fun _ => true) true n8 34 [c10] = some y8_10 := by
    have g0 := hx8 10 _ rfl
    rw [hy8_10] at g0
    simpa [Value.cells, cells34] using g0
  clear hf hx8
  obtain ⟨ax_0, ex_0, -, wx_0⟩ := DataW.trod_int Try.underlying5 g8_0
  obtain rfl : c0 = .int .u8 ax_0 := by simpa using ex_0
  clear g8_0 ex_0
  obtain ⟨ax_1, ex_1, -, wx_1⟩ := DataW.trod_int Try.underlying31 g8_1
  obtain rfl : c1 = .int .u16 ax_1 := by simpa using ex_1
  clear g8_1 ex_1
  obtain ⟨ax_2, ex_2, -⟩ := DataW.trod_bool Try.underlying4 g8_2
  obtain rfl : c2 = .bool ax_2 := by simpa using ex_2
  clear g8_2 ex_2
  obtain ⟨ax_3, ex_3, -⟩ := DataW.trod_bool Try.underlying4 g8_3
  obtain rfl : c3 = .bool ax_3 := by simpa using ex_3
  clear g8_3 ex_3
  obtain ⟨ax_4, ex_4, -, wx_4⟩ := DataW.trod_int Try.underlying31 g8_4
  obtain rfl : c4 = .int .u16 ax_4 := by simpa using ex_4
  clear g8_4 ex_4
  obtain ⟨ax_5, ex_5, -, wx_5⟩ := DataW.trod_int Try.underlying5 g8_5
  obtain rfl : c5 = .int .u8 ax_5 := by simpa using ex_5
  clear g8_5 ex_5
  obtain ⟨ax_6, ex_6, -, wx_6⟩ := DataW.trod_int Try.underlying5 g8_6
  obtain rfl : c6 = .int .u8 ax_6 := by simpa using ex_6
  clear g8_6 ex_6
  obtain ⟨ax_7, ex_7, -, wx_7⟩ := DataW.trod_int Try.underlying25 g8_7
  obtain rfl : c7 = .int .u32 ax_7 := by simpa using ex_7
  clear g8_7 ex_7
  obtain ⟨ax_8, ex_8, -, wx_8⟩ := DataW.trod_int Try.underlying25 g8_8
  obtain rfl : c8 = .int .u32 ax_8 := by simpa using ex_8
  clear g8_8 ex_8
  obtain ⟨ax_9, lenx_9, capx_9, ex_9⟩ := Go.Joins.slice_form Try.underlying34 g8_9
  obtain rfl : c9 = .slice ax_9 lenx_9 capx_9 := by simpa using ex_9
  obtain ⟨zx_9, wx_9⟩ := isRow_of Try.underlying34 Try.underlying5 (by kernel_rfl) g8_9
  clear g8_9 ex_9
  obtain ⟨ax_10, lenx_10, capx_10, ex_10⟩ := Go.Joins.slice_form Try.underlying34 g8_10
  obtain rfl : c10 = .slice ax_10 lenx_10 capx_10 := by simpa using ex_10
  obtain ⟨zx_10, wx_10⟩ := isRow_of Try.underlying34 Try.underlying5 (by kernel_rfl) g8_10
  clear g8_10 ex_10
  exact ⟨ax_0, ax_1, ax_2, ax_3, ax_4, ax_5, ax_6, ax_7, ax_8, ax_9, lenx_9, capx_9, zx_9, ax_10, lenx_10, capx_10, zx_10, wx_0, wx_1, wx_4, wx_5, wx_6, wx_7, wx_8, wx_9, wx_10, rfl⟩

theorem walk (a0_0_0_0 : Int) (a0_0_0_1 : Int) (a0_0_0_2 : Int) (a0_0_0_3 : Int) (a0_0_0_4 : Int) (a0_0_0_5 : Int) (a0_0_1_0 : Int) (a0_0_1_1 : Int) (a0_0_1_2 : Int) (a0_0_1_3 : Int) (a0_0_1_4 : Int) (a0_0_1_5 : Int) (a0_1_0 : Int) (a0_1_1 : Int) (a0_2_0 : Int) (a0_2_1 : Int) (a0_3 : Int) (a0_4 : Int) (a0_5_0 : Int) (a0_5_1 : Int) (a0_6_0 : Int) (a0_6_1 : Int) (a0_7 : Int) (a0_8 : Int) (a0_9 : Int) (a0_10 : Int) (a0_11 : Int) (a0_12 : Int) (a0_13 : Int) (a0_14 : Int) (a0_15 : Int) (a0_16 : Int) (a0_17 : Int) (a0_18 : Int) (a0_19 : Int) (a0_20 : Int) (a0_21 : Int) (a0_22 : Int) (a0_23 : Int) (a0_24 : Int) (a1_0 : Int) (a1_1 : Int) (a1_2 : Bool) (a1_3 : Bool) (a1_4 : Int) (a1_5 : Int) (a1_6 : Int) (a1_7 : Int) (a1_8 : Int) (a1_9 : Option Addr) (len1_9 cap1_9 : Nat) (z1_9 : List Int) (a1_10 : Option Addr) (len1_10 cap1_10 : Nat) (z1_10 : List Int) (a2 : Int) (w : World) (w0_0_0_0 : (Lit.int .u8 a0_0_0_0).wf = true) (w0_0_0_1 : (Lit.int .u8 a0_0_0_1).wf = true) (w0_0_0_2 : (Lit.int .u8 a0_0_0_2).wf = true) (w0_0_0_3 : (Lit.int .u8 a0_0_0_3).wf = true) (w0_0_0_4 : (Lit.int .u8 a0_0_0_4).wf = true) (w0_0_0_5 : (Lit.int .u8 a0_0_0_5).wf = true) (w0_0_1_0 : (Lit.int .u8 a0_0_1_0).wf = true) (w0_0_1_1 : (Lit.int .u8 a0_0_1_1).wf = true) (w0_0_1_2 : (Lit.int .u8 a0_0_1_2).wf = true) (w0_0_1_3 : (Lit.int .u8 a0_0_1_3).wf = true) (w0_0_1_4 : (Lit.int .u8 a0_0_1_4).wf = true) (w0_0_1_5 : (Lit.int .u8 a0_0_1_5).wf = true) (w0_1_0 : (Lit.int .u32 a0_1_0).wf = true) (w0_1_1 : (Lit.int .u32 a0_1_1).wf = true) (w0_2_0 : (Lit.int .i64 a0_2_0).wf = true) (w0_2_1 : (Lit.int .i64 a0_2_1).wf = true) (w0_3 : (Lit.int .u32 a0_3).wf = true) (w0_4 : (Lit.int .i64 a0_4).wf = true) (w0_5_0 : (Lit.int .u64 a0_5_0).wf = true) (w0_5_1 : (Lit.int .u64 a0_5_1).wf = true) (w0_6_0 : (Lit.int .u64 a0_6_0).wf = true) (w0_6_1 : (Lit.int .u64 a0_6_1).wf = true) (w0_7 : (Lit.int .u16 a0_7).wf = true) (w0_8 : (Lit.int .i64 a0_8).wf = true) (w0_9 : (Lit.int .i64 a0_9).wf = true) (w0_10 : (Lit.int .i64 a0_10).wf = true) (w0_11 : (Lit.int .i64 a0_11).wf = true) (w0_12 : (Lit.int .i64 a0_12).wf = true) (w0_13 : (Lit.int .i64 a0_13).wf = true) (w0_14 : (Lit.int .i64 a0_14).wf = true) (w0_15 : (Lit.int .i64 a0_15).wf = true) (w0_16 : (Lit.int .i64 a0_16).wf = true) (w0_17 : (Lit.int .i64 a0_17).wf = true) (w0_18 : (Lit.int .i64 a0_18).wf = true) (w0_19 : (Lit.int .i64 a0_19).wf = true) (w0_20 : (Lit.int .i64 a0_20).wf = true) (w0_21 : (Lit.int .i64 a0_21).wf = true) (w0_22 : (Lit.int .i64 a0_22).wf = true) (w0_23 : (Lit.int .i64 a0_23).wf = true) (w0_24 : (Lit.int .i64 a0_24).wf = true) (w1_0 : (Lit.int .u8 a1_0).wf = true) (w1_1 : (Lit.int .u16 a1_1).wf = true) (w1_4 : (Lit.int .u16 a1_4).wf = true) (w1_5 : (Lit.int .u8 a1_5).wf = true) (w1_6 : (Lit.int .u8 a1_6).wf = true) (w1_7 : (Lit.int .u32 a1_7).wf = true) (w1_8 : (Lit.int .u32 a1_8).wf = true) (w1_9 : IsRow .u8 w a1_9 len1_9 cap1_9 z1_9) (w1_10 : IsRow .u8 w a1_10 len1_10 cap1_10 z1_10) (w2 : (Lit.int .u16 a2).wf = true) :
    Calls Try.prog 3 #[.agg #[.int .u8 a0_0_0_0, .int .u8 a0_0_0_1, .int .u8 a0_0_0_2, .int .u8 a0_0_0_3, .int .u8 a0_0_0_4, .int .u8 a0_0_0_5, .int .u8 a0_0_1_0, .int .u8 a0_0_1_1, .int .u8 a0_0_1_2, .int .u8 a0_0_1_3, .int .u8 a0_0_1_4, .int .u8 a0_0_1_5, .int .u32 a0_1_0, .int .u32 a0_1_1, .int .i64 a0_2_0, .int .i64 a0_2_1, .int .u32 a0_3, .int .i64 a0_4, .int .u64 a0_5_0, .int .u64 a0_5_1, .int .u64 a0_6_0, .int .u64 a0_6_1, .int .u16 a0_7, .int .i64 a0_8, .int .i64 a0_9, .int .i64 a0_10, .int .i64 a0_11, .int .i64 a0_12, .int .i64 a0_13, .int .i64 a0_14, .int .i64 a0_15, .int .i64 a0_16, .int .i64 a0_17, .int .i64 a0_18, .int .i64 a0_19, .int .i64 a0_20, .int .i64 a0_21, .int .i64 a0_22, .int .i64 a0_23, .int .i64 a0_24], .agg #[.int .u8 a1_0, .int .u16 a1_1, .bool a1_2, .bool a1_3, .int .u16 a1_4, .int .u8 a1_5, .int .u8 a1_6, .int .u32 a1_7, .int .u32 a1_8, .slice a1_9 len1_9 cap1_9, .slice a1_10 len1_10 cap1_10], .int .u16 a2] w fun e w' => e = .returned (.bool true) ∧ Below w.heap.size w w' := by
  exact ErrsTells_walk a0_0_0_0 a0_0_0_1 a0_0_0_2 a0_0_0_3 a0_0_0_4 a0_0_0_5 a0_0_1_0 a0_0_1_1 a0_0_1_2 a0_0_1_3 a0_0_1_4 a0_0_1_5 a0_1_0 a0_1_1 a0_2_0 a0_2_1 a0_3 a0_4 a0_5_0 a0_5_1 a0_6_0 a0_6_1 a0_7 a0_8 a0_9 a0_10 a0_11 a0_12 a0_13 a0_14 a0_15 a0_16 a0_17 a0_18 a0_19 a0_20 a0_21 a0_22 a0_23 a0_24 a1_0 a1_1 a1_2 a1_3 a1_4 a1_5 a1_6 a1_7 a1_8 a1_9 len1_9 cap1_9 z1_9 a1_10 len1_10 cap1_10 z1_10 a2 w w0_0_0_0 w0_0_0_1 w0_0_0_2 w0_0_0_3 w0_0_0_4 w0_0_0_5 w0_0_1_0 w0_0_1_1 w0_0_1_2 w0_0_1_3 w0_0_1_4 w0_0_1_5 w0_1_0 w0_1_1 w0_2_0 w0_2_1 w0_3 w0_4 w0_5_0 w0_5_1 w0_6_0 w0_6_1 w0_7 w0_8 w0_9 w0_10 w0_11 w0_12 w0_13 w0_14 w0_15 w0_16 w0_17 w0_18 w0_19 w0_20 w0_21 w0_22 w0_23 w0_24 w1_0 w1_1 w1_4 w1_5 w1_6 w1_7 w1_8 w1_9 w1_10 w2

set_option maxRecDepth 100000 in
theorem lifted (os : Os) (started : os.Started) (H : Type) (enc : TypeId × Value → H) :
    ReturnsInHanded {} Try.checked os 3 .any (Rows.errsTellsSpec.pre6 enc Try.prog Try.f3 Rows.errsTellsRow.domain false) (Rows.errsTellsSpec.post enc Try.prog Try.f3 false true false false) := by
  refine returnsInHanded_of_change (C := Try.checked) own started (by kernel_rfl) Try.func3
    (ChangeSpec.witness6 (enc := enc) (C := Try.checked) false ⟨#[], #[.agg #[.int .u8 0, .int .u8 0, .int .u8 0, .int .u8 0, .int .u8 0, .int .u8 0, .int .u8 0, .int .u8 0, .int .u8 0, .int .u8 0, .int .u8 0, .int .u8 0, .int .u32 0, .int .u32 0, .int .i64 0, .int .i64 0, .int .u32 0, .int .i64 0, .int .u64 0, .int .u64 0, .int .u64 0, .int .u64 0, .int .u16 0, .int .i64 0, .int .i64 0, .int .i64 0, .int .i64 0, .int .i64 0, .int .i64 0, .int .i64 0, .int .i64 0, .int .i64 0, .int .i64 0, .int .i64 0, .int .i64 0, .int .i64 0, .int .i64 0, .int .i64 0, .int .i64 0, .int .i64 0], .agg #[.int .u8 0, .int .u16 0, .bool false, .bool false, .int .u16 0, .int .u8 0, .int .u8 0, .int .u32 0, .int .u32 0, .slice none 0 0, .slice none 0 0], .int .u16 0], []⟩ 8 (by kernel_rfl) (by kernel_rfl) (by kernel_rfl) (by kernel_rfl)) ?_
  intro W base args ds gs before hval0 hW hcnd _
  have hval : ∀ (j : Nat) t v, Try.f3.params[j]? = some t → args[j]? = some v → Value.okWide Try.prog W .any base t v := hval0
  have hW' := hW
  obtain ⟨p, q, hA0, hV, rfl, hfz, hnd⟩ := hW
  have hA : DataW.TrodAll enc Try.prog W 0 (fun _ => true) true Try.f3.params.toList args.toList ds p := hA0
  rw [Try.params3] at hA hval
  obtain ⟨v0, vs0, d0, ds0, p0, q0, hargs, rfl, rfl, h0, r0⟩ := trodAll_cons hA
  obtain ⟨v1, vs1, d1, ds1, p1, q1, rfl, rfl, rfl, h1, r1⟩ := trodAll_cons r0
  obtain ⟨v2, vs2, d2, ds2, p2, q2, rfl, rfl, rfl, h2, r2⟩ := trodAll_cons r1
  obtain ⟨rfl, rfl, rfl⟩ := trodAll_nil r2
  obtain rfl : args = #[v0, v1, v2] := by cases args; simp_all
  obtain ⟨rfl, rfl⟩ := trodVars_none hV
  have k0 := h0
  have lt0 : ∀ x ∈ p0, x.block < W.heap.size := by obtain ⟨m, hm⟩ := k0; exact DataW.trod_lt m _ _ _ hm
  obtain ⟨a0_0_0_0, a0_0_0_1, a0_0_0_2, a0_0_0_3, a0_0_0_4, a0_0_0_5, a0_0_1_0, a0_0_1_1, a0_0_1_2, a0_0_1_3, a0_0_1_4, a0_0_1_5, a0_1_0, a0_1_1, a0_2_0, a0_2_1, a0_3, a0_4, a0_5_0, a0_5_1, a0_6_0, a0_6_1, a0_7, a0_8, a0_9, a0_10, a0_11, a0_12, a0_13, a0_14, a0_15, a0_16, a0_17, a0_18, a0_19, a0_20, a0_21, a0_22, a0_23, a0_24, w0_0_0_0, w0_0_0_1, w0_0_0_2, w0_0_0_3, w0_0_0_4, w0_0_0_5, w0_0_1_0, w0_0_1_1, w0_0_1_2, w0_0_1_3, w0_0_1_4, w0_0_1_5, w0_1_0, w0_1_1, w0_2_0, w0_2_1, w0_3, w0_4, w0_5_0, w0_5_1, w0_6_0, w0_6_1, w0_7, w0_8, w0_9, w0_10, w0_11, w0_12, w0_13, w0_14, w0_15, w0_16, w0_17, w0_18, w0_19, w0_20, w0_21, w0_22, w0_23, w0_24, rfl⟩ := open33 (hval 0 33 v0 rfl rfl) h0
  have k1 := h1
  have lt1 : ∀ x ∈ p1, x.block < W.heap.size := by obtain ⟨m, hm⟩ := k1; exact DataW.trod_lt m _ _ _ hm
  obtain ⟨a1_0, a1_1, a1_2, a1_3, a1_4, a1_5, a1_6, a1_7, a1_8, a1_9, len1_9, cap1_9, z1_9, a1_10, len1_10, cap1_10, z1_10, w1_0, w1_1, w1_4, w1_5, w1_6, w1_7, w1_8, w1_9, w1_10, rfl⟩ := open36 (hval 1 36 v1 rfl rfl) h1
  obtain ⟨a2, rfl, rfl, rfl, w2⟩ := open_int Try.underlying31 (hval 2 31 v2 rfl rfl) h2
  clear hA0 hval0
  refine (walk a0_0_0_0 a0_0_0_1 a0_0_0_2 a0_0_0_3 a0_0_0_4 a0_0_0_5 a0_0_1_0 a0_0_1_1 a0_0_1_2 a0_0_1_3 a0_0_1_4 a0_0_1_5 a0_1_0 a0_1_1 a0_2_0 a0_2_1 a0_3 a0_4 a0_5_0 a0_5_1 a0_6_0 a0_6_1 a0_7 a0_8 a0_9 a0_10 a0_11 a0_12 a0_13 a0_14 a0_15 a0_16 a0_17 a0_18 a0_19 a0_20 a0_21 a0_22 a0_23 a0_24 a1_0 a1_1 a1_2 a1_3 a1_4 a1_5 a1_6 a1_7 a1_8 a1_9 len1_9 cap1_9 z1_9 a1_10 len1_10 cap1_10 z1_10 a2 W w0_0_0_0 w0_0_0_1 w0_0_0_2 w0_0_0_3 w0_0_0_4 w0_0_0_5 w0_0_1_0 w0_0_1_1 w0_0_1_2 w0_0_1_3 w0_0_1_4 w0_0_1_5 w0_1_0 w0_1_1 w0_2_0 w0_2_1 w0_3 w0_4 w0_5_0 w0_5_1 w0_6_0 w0_6_1 w0_7 w0_8 w0_9 w0_10 w0_11 w0_12 w0_13 w0_14 w0_15 w0_16 w0_17 w0_18 w0_19 w0_20 w0_21 w0_22 w0_23 w0_24 w1_0 w1_1 w1_4 w1_5 w1_6 w1_7 w1_8 w1_9 w1_10 w2).mono fun e W' ⟨he, bel⟩ => ?_
  subst he
  exact ⟨_, rfl, _, _, _, [], _, [], hW', trodAll_mk1 (shut_bool Try.underlying4 _), (trodAll_cons_mk (Below.trod laidOut (by kernel_rfl) (of_decide_eq_true (by kernel_rfl)) k0 bel lt0) (trodAll_cons_mk (Below.trod laidOut (by kernel_rfl) (of_decide_eq_true (by kernel_rfl)) k1 bel lt1) (trodAll_cons_mk (shut_int Try.underlying31 w2) trodAll_mk0))), rfl, bel.frame _, fun h => by cases h⟩

theorem over : Rows.errsTellsRow.holds Try.pinned (OpenSpec.ofChange Rows.errsTellsSpec) :=
  OpenClaim.holds_of_wide 3 Try.f3 rfl rfl rfl rfl rfl rfl rfl ⟨rfl, rfl, rfl, rfl, rfl⟩ rfl rfl rfl rfl rfl (by kernel_rfl) Try.func3 (by kernel_rfl)
    (of_decide_eq_true (by kernel_rfl)) (by unfold Func.isWrapper; first | (rw [if_pos (by decide +kernel)]; kernel_rfl) | (rw [if_neg (by decide +kernel)]; exact ⟨rfl, rfl⟩))
    (fun os started H enc _ => lifted os started H enc)

theorem proved : Rows.ErrsTellsSaid := over
#print axioms proved
end Go.Proofs.Ytpibempfhgaomaa.errsTells
