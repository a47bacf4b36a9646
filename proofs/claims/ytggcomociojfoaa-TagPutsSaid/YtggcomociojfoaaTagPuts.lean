/- For every key and order, the bytes of the message and the error are those of the reference, a message that may be is read again as that order, and where there is none the bytes are refused; the statement holds for every input, without conditions. -/
import Derived.Test.YtggcomociojfoaaRows
import Derived.WalkKit
import Derived.ProofKit
import Derived.OpenShut
import Derived.ShutString
import Derived.ChangeOld
import Derived.Below
import Derived.Lib.SmallJoins
import Derived.Test.YtggcomociojfoaaLaw34
namespace Go.Proofs.Ytggcomociojfoaa.tagPuts
open Go.ChangeShapes Go.WideShapes Go.ChangeAt Go.RowKit
open Go.ChangeMaps (open_string shut_string)
set_option linter.unusedVariables false

theorem own : ownKnob Try.prog.godebug = none := by kernel_rfl
theorem laidOut : laidOutB Try.prog = true := by kernel_rfl

def IsRow (k : IntKind) (w : World) (a : Option Addr) (len cap : Nat) (zs : List Int) : Prop :=
  (a = none ∧ len = 0 ∧ cap = 0 ∧ zs = []) ∨
  ∃ x, a = some x ∧ len ≤ cap ∧ cap ≤ maxLen ∧ zs.length = cap ∧ (∀ i, i < zs.length → w.cell? (x.add i) = some (.int k (zs.getD i 0))) ∧ ∀ n ∈ zs, (Lit.int k n).wf = true

theorem cons_of {α : Type} {l : List α} {n : Nat} (h : l.length = n + 1) : ∃ c l1, l = c :: l1 ∧ l1.length = n := by
  cases l with
  | nil => cases h
  | cons c l => exact ⟨c, l, rfl, by simpa using h⟩
theorem cells33 : Try.prog.cellsOf 33 = 1 := by kernel_rfl
theorem cells35 : Try.prog.cellsOf 35 = 2 := by kernel_rfl
theorem cells3 : Try.prog.cellsOf 3 = 1 := by kernel_rfl
theorem cells22 : Try.prog.cellsOf 22 = 1 := by kernel_rfl
theorem cells23 : Try.prog.cellsOf 23 = 1 := by kernel_rfl
theorem cells5 : Try.prog.cellsOf 5 = 1 := by kernel_rfl
theorem cells37 : Try.prog.cellsOf 37 = 8 := by kernel_rfl
theorem okArray {P : Program} {w : World} {r : Reach} {base : Nat} {v : Value} {n : Nat} {e t : TypeId} (ht : P.underlying t = some (.array n e)) (h : Value.okWide P w r base t v) : ∃ cs, v = .agg cs ∧ cs.size = P.cellsOf t := by
  simp only [Value.okWide, ht] at h
  obtain ⟨cs, h1, h2, _⟩ := h
  exact ⟨cs, h1, h2⟩
theorem isRow_of {H : Type} {enc : TypeId × Value → H} {P : Program} {W : World} {t e : TypeId} {k : IntKind} {n : Nat} {a : Option Addr} {len cap : Nat} {y : DataW H × List MemPlace} (ht : P.underlying t = some (.slice e)) (he : P.underlying e = some (.int k)) (hc : P.cellsOf e = 1)
    (hf : DataW.trod enc P W 0 (fun _ => true) true n t [.slice a len cap] = some y) : ∃ zs, IsRow k W a len cap zs := by
  rcases open_ints ht he hc hf with ⟨hcs, _⟩ | ⟨x, l, c, zs, hcs, _, hl, hm, hz, _, hcell, hwz⟩
  · simp at hcs
    obtain ⟨rfl, rfl, rfl⟩ := hcs
    exact ⟨[], .inl ⟨rfl, rfl, rfl, rfl⟩⟩
  · simp at hcs
    obtain ⟨rfl, rfl, rfl⟩ := hcs
    exact ⟨zs, .inr ⟨_, rfl, hl, hm, by simpa using hz, hcell, hwz⟩⟩
theorem list2 {α : Type} (l : List α) (h : l.length = 2) : ∃ c0 c1, l = [c0, c1] := by
  obtain ⟨c0, l0, e0, h0⟩ := cons_of h
  obtain ⟨c1, l1, e1, h1⟩ := cons_of h0
  have e2 := List.eq_nil_of_length_eq_zero h1
  subst e2 e1 e0
  exact ⟨c0, c1, rfl⟩
set_option maxRecDepth 100000 in
theorem open35 {H : Type} {enc : TypeId × Value → H} {W : World} {base : Nat} {v : Value} {d : DataW H} {p : List MemPlace} (hv : Value.okWide Try.prog W .any base 35 v) (h : DataW.Trod enc Try.prog W 0 (fun _ => true) true 35 v d p) :
    ∃ (ax_0 : Int) (ax_1 : Int), (Lit.int .u64 ax_0).wf = true ∧ (Lit.int .u64 ax_1).wf = true ∧ v = .agg #[.int .u64 ax_0, .int .u64 ax_1] := by
  obtain ⟨cs, rfl, hsz⟩ := okWide_struct Try.underlying35 hv
  rw [cells35] at hsz
  obtain ⟨l⟩ := cs
  have hsz2 : l.length = 2 := hsz
  obtain ⟨c0, c1, rfl⟩ := list2 l hsz2
  obtain ⟨fuel, hf⟩ := h
  have hf : DataW.trod enc Try.prog W 0 (fun _ => true) true fuel 35 [c0, c1] = some (d, p) := hf
  obtain ⟨xs0, n0, -, -, -, hl0, hx0⟩ := DataW.trod_struct Try.underlying35 hf
  obtain ⟨y0_0, hy0_0⟩ : ∃ y, xs0[0]? = some y := ⟨_, List.getElem?_eq_getElem (by rw [hl0]; decide)⟩
  have g0_0 : DataW.trod enc Try.prog W 0 (fun _ => true) true n0 33 [c0] = some y0_0 := by
    have g0 := hx0 0 _ rfl
    rw [hy0_0] at g0
    simpa [Value.cells, cells33] using g0
  obtain ⟨y0_1, hy0_1⟩ : ∃ y, xs0[1]? = some y := ⟨_, List.getElem?_eq_getElem (by rw [hl0]; decide)⟩
  have g0_1 : DataW.trod enc Try.prog W 0 (fun _ => true) true n0 33 [c1] = some y0_1 := by
    have g0 := hx0 1 _ rfl
    rw [hy0_1] at g0
    simpa [Value.cells, cells33] using g0
  clear hf hx0
  obtain ⟨ax_0, ex_0, -, wx_0⟩ := DataW.trod_int Try.underlying33 g0_0
  obtain rfl : c0 = .int .u64 ax_0 := by simpa using ex_0
  clear g0_0 ex_0
  obtain ⟨ax_1, ex_1, -, wx_1⟩ := DataW.trod_int Try.underlying33 g0_1
  obtain rfl : c1 = .int .u64 ax_1 := by simpa using ex_1
  clear g0_1 ex_1
  exact ⟨ax_0, ax_1, wx_0, wx_1, rfl⟩
theorem list8 {α : Type} (l : List α) (h : l.length = 8) : ∃ c0 c1 c2 c3 c4 c5 c6 c7, l = [c0, c1, c2, c3, c4, c5, c6, c7] := by
  obtain ⟨c0, l0, e0, h0⟩ := cons_of h
  obtain ⟨c1, l1, e1, h1⟩ := cons_of h0
  obtain ⟨c2, l2, e2, h2⟩ := cons_of h1
  obtain ⟨c3, l3, e3, h3⟩ := cons_of h2
  obtain ⟨c4, l4, e4, h4⟩ := cons_of h3
  obtain ⟨c5, l5, e5, h5⟩ := cons_of h4
  obtain ⟨c6, l6, e6, h6⟩ := cons_of h5
  obtain ⟨c7, l7, e7, h7⟩ := cons_of h6
  have e8 := List.eq_nil_of_length_eq_zero h7
  subst e8 e7 e6 e5 e4 e3 e2 e1 e0
  exact ⟨c0, c1, c2, c3, c4, c5, c6, c7, rfl⟩
set_option maxRecDepth 100000 in
theorem open37 {H : Type} {enc : TypeId × Value → H} {W : World} {base : Nat} {v : Value} {d : DataW H} {p : List MemPlace} (hv : Value.okWide Try.prog W .any base 37 v) (h : DataW.Trod enc Try.prog W 0 (fun _ => true) true 37 v d p) :
    ∃ (ax_0 : Int) (ax_1 : Int) (ax_2 : Int) (ax_3 : Int) (ax_4 : Int) (ax_5 : Int) (ax_6 : Int) (ax_7 : Int), (Lit.int .u64 ax_0).wf = true ∧ (Lit.int .i64 ax_1).wf = true ∧ (Lit.int .i64 ax_2).wf = true ∧ (Lit.int .i64 ax_3).wf = true ∧ (Lit.int .u32 ax_4).wf = true ∧ (Lit.int .u16 ax_5).wf = true ∧ (Lit.int .u8 ax_6).wf = true ∧ (Lit.int .i64 ax_7).wf = true ∧ v = .agg #[.int .u64 ax_0, .int .i64 ax_1, .int .i64 ax_2, .int .i64 ax_3, .int .u32 ax_4, .int .u16 ax_5, .int .u8 ax_6, .int .i64 ax_7] := by
  obtain ⟨cs, rfl, hsz⟩ := okWide_struct Try.underlying37 hv
  rw [cells37] at hsz
  obtain ⟨l⟩ := cs
  have hsz2 : l.length = 8 := hsz
  obtain ⟨c0, c1, c2, c3, c4, c5, c6, c7, rfl⟩ := list8 l hsz2
  obtain ⟨fuel, hf⟩ := h
  have hf : DataW.trod enc Try.prog W 0 (fun _ => true) true fuel 37 [c0, c1, c2, c3, c4, c5, c6, c7] = some (d, p) := hf
  obtain ⟨xs1, n1, -, -, -, hl1, hx1⟩ := DataW.trod_struct Try.underlying37 hf
  obtain ⟨y1_0, hy1_0⟩ : ∃ y, xs1[0]? = some y := ⟨_, List.getElem?_eq_getElem (by rw [hl1]; decide)⟩
  have g1_0 : DataW.trod enc Try.prog W 0 (fun _ => true) true n1 33 [c0] = some y1_0 := by
    have g0 := hx1 0 _ rfl
    rw [hy1_0] at g0
    simpa [Value.cells, cells33] using g0
  obtain ⟨y1_1, hy1_1⟩ : ∃ y, xs1[1]? = some y := ⟨_, List.getElem?_eq_getElem (by rw [hl1]; decide)⟩
  have g1_1 : DataW.trod enc Try.prog W 0 (fun _ => true) true n1 3 [c1] = some y1_1 := by
    have g0 := hx1 1 _ rfl
    rw [hy1_1] at g0
    simpa [Value.cells, cells3] using g0
  obtain ⟨y1_2, hy1_2⟩ : ∃ y, xs1[2]? = some y := ⟨_, List.getElem?_eq_getElem (by rw [hl1]; decide)⟩
  have g1_2 : DataW.trod enc Try.prog W 0 (fun _ => true) true n1 3 [c2] = some y1_2 := by
    have g0 := hx1 2 _ rfl
    rw [hy1_2] at g0
    simpa [Value.cells, cells3] using g0
  obtain ⟨y1_3, hy1_3⟩ : ∃ y, xs1[3]? = some y := ⟨_, List.getElem?_eq_getElem (by rw [hl1]; decide)⟩
  have g1_3 : DataW.trod enc Try.prog W 0 (fun _ => true) true n1 3 [c3] = some y1_3 := by
    have g0 := hx1 3 _ rfl
    rw [hy1_3] at g0
    simpa [Value.cells, cells3] using g0
  obtain ⟨y1_4, hy1_4⟩ : ∃ y, xs1[4]? = some y := ⟨_, List.getElem?_eq_getElem (by rw [hl1]; decide)⟩
  have g1_4 : DataW.trod enc Try.prog W 0 (fun _ => true) true n1 22 [c4] = some y1_4 := by
    have g0 := hx1 4 _ rfl
    rw [hy1_4] at g0
    simpa [Value.cells, cells22] using g0
  obtain ⟨y1_5, hy1_5⟩ : ∃ y, xs1[5]? = some y := ⟨_, List.getElem?_eq_getElem (by rw [hl1]; decide)⟩
  have g1_5 : DataW.trod enc Try.prog W 0 (fun _ => true) true n1 23 [c5] = some y1_5 := by
    have g0 := hx1 5 _ rfl
    rw [hy1_5] at g0
    simpa [Value.cells, cells23] using g0
  obtain ⟨y1_6, hy1_6⟩ : ∃ y, xs1[6]? = some y := ⟨_, List.getElem?_eq_getElem (by rw [hl1]; decide)⟩
  have g1_6 : DataW.trod enc Try.prog W 0 (fun _ => true) true n1 5 [c6] = some y1_6 := by
    have g0 := hx1 6 _ rfl
    rw [hy1_6] at g0
    simpa [Value.cells, cells5] using g0
  obtain ⟨y1_7, hy1_7⟩ : ∃ y, xs1[7]? = some y := ⟨_, List.getElem?_eq_getElem (by rw [hl1]; decide)⟩
  have g1_7 : DataW.trod enc Try.prog W 0 (fun _ => true) true n1 3 [c7] = some y1_7 := by
    have g0 := hx1 7 _ rfl
    rw [hy1_7] at g0
    simpa [Value.cells, cells3] using g0
  clear hf hx1
  obtain ⟨ax_0, ex_0, -, wx_0⟩ := DataW.trod_int Try.underlying33 g1_0
  obtain rfl : c0 = .int .u64 ax_0 := by simpa using ex_0
  clear g1_0 ex_0
  obtain ⟨ax_1, ex_1, -, wx_1⟩ := DataW.trod_int Try.underlying3 g1_1
  obtain rfl : c1 = .int .i64 ax_1 := by simpa using ex_1
  clear g1_1 ex_1
  obtain ⟨ax_2, ex_2, -, wx_2⟩ := DataW.trod_int Try.underlying3 g1_2
  obtain rfl : c2 = .int .i64 ax_2 := by simpa using ex_2
  clear g1_2 ex_2
  obtain ⟨ax_3, ex_3, -, wx_3⟩ := DataW.trod_int Try.underlying3 g1_3
  obtain rfl : c3 = .int .i64 ax_3 := by simpa using ex_3
  clear g1_3 ex_3
  obtain ⟨ax_4, ex_4, -, wx_4⟩ := DataW.trod_int Try.underlying22 g1_4
  obtain rfl : c4 = .int .u32 ax_4 := by simpa using ex_4
  clear g1_4 ex_4
  obtain ⟨ax_5, ex_5, -, wx_5⟩ := DataW.trod_int Try.underlying23 g1_5
  obtain rfl : c5 = .int .u16 ax_5 := by simpa using ex_5
  clear g1_5 ex_5
  obtain ⟨ax_6, ex_6, -, wx_6⟩ := DataW.trod_int Try.underlying5 g1_6
  obtain rfl : c6 = .int .u8 ax_6 := by simpa using ex_6
  clear g1_6 ex_6
  obtain ⟨ax_7, ex_7, -, wx_7⟩ := DataW.trod_int Try.underlying3 g1_7
  obtain rfl : c7 = .int .i64 ax_7 := by simpa using ex_7
  clear g1_7 ex_7
  exact ⟨ax_0, ax_1, ax_2, ax_3, ax_4, ax_5, ax_6, ax_7, wx_0, wx_1, wx_2, wx_3, wx_4, wx_5, wx_6, wx_7, rfl⟩

theorem walk (a0_0 : Int) (a0_1 : Int) (a1_0 : Int) (a1_1 : Int) (a1_2 : Int) (a1_3 : Int) (a1_4 : Int) (a1_5 : Int) (a1_6 : Int) (a1_7 : Int) (w : World) (w0_0 : (Lit.int .u64 a0_0).wf = true) (w0_1 : (Lit.int .u64 a0_1).wf = true) (w1_0 : (Lit.int .u64 a1_0).wf = true) (w1_1 : (Lit.int .i64 a1_1).wf = true) (w1_2 : (Lit.int .i64 a1_2).wf = true) (w1_3 : (Lit.int .i64 a1_3).wf = true) (w1_4 : (Lit.int .u32 a1_4).wf = true) (w1_5 : (Lit.int .u16 a1_5).wf = true) (w1_6 : (Lit.int .u8 a1_6).wf = true) (w1_7 : (Lit.int .i64 a1_7).wf = true) :
    Calls Try.prog 4 #[.agg #[.int .u64 a0_0, .int .u64 a0_1], .agg #[.int .u64 a1_0, .int .i64 a1_1, .int .i64 a1_2, .int .i64 a1_3, .int .u32 a1_4, .int .u16 a1_5, .int .u8 a1_6, .int .i64 a1_7]] w fun e w' => e = .returned (.bool true) ∧ Below w.heap.size w w' := by
  exact TagPuts_walk a0_0 a0_1 a1_0 a1_1 a1_2 a1_3 a1_4 a1_5 a1_6 a1_7 w w0_0 w0_1 w1_0 w1_1 w1_2 w1_3 w1_4 w1_5 w1_6 w1_7

set_option maxRecDepth 100000 in
theorem lifted (os : Os) (started : os.Started) (H : Type) (enc : TypeId × Value → H) :
    ReturnsInHanded {} Try.checked os 4 .any (Rows.tagPutsSpec.pre6 enc Try.prog Try.f4 Rows.tagPutsRow.domain false) (Rows.tagPutsSpec.post enc Try.prog Try.f4 false true false false) := by
  refine returnsInHanded_of_change (C := Try.checked) own started (by kernel_rfl) Try.func4
    (ChangeSpec.witness6 (enc := enc) (C := Try.checked) false ⟨#[], #[.agg #[.int .u64 0, .int .u64 0], .agg #[.int .u64 0, .int .i64 0, .int .i64 0, .int .i64 0, .int .u32 0, .int .u16 0, .int .u8 0, .int .i64 0]], []⟩ 8 (by kernel_rfl) (by kernel_rfl) (by kernel_rfl) (by kernel_rfl)) ?_
  intro W base args ds gs before hval0 hW hcnd _
  have hval : ∀ (j : Nat) t v, Try.f4.params[j]? = some t → args[j]? = some v → Value.okWide Try.prog W .any base t v := hval0
  have hW' := hW
  obtain ⟨p, q, hA0, hV, rfl, hfz, hnd⟩ := hW
  have hA : DataW.TrodAll enc Try.prog W 0 (fun _ => true) true Try.f4.params.toList args.toList ds p := hA0
  rw [Try.params4] at hA hval
  obtain ⟨v0, vs0, d0, ds0, p0, q0, hargs, rfl, rfl, h0, r0⟩ := trodAll_cons hA
  obtain ⟨v1, vs1, d1, ds1, p1, q1, rfl, rfl, rfl, h1, r1⟩ := trodAll_cons r0
  obtain ⟨rfl, rfl, rfl⟩ := trodAll_nil r1
  obtain rfl : args = #[v0, v1] := by cases args; simp_all
  obtain ⟨rfl, rfl⟩ := trodVars_none hV
  have k0 := h0
  have lt0 : ∀ x ∈ p0, x.block < W.heap.size := by obtain ⟨m, hm⟩ := k0; exact DataW.trod_lt m _ _ _ hm
  obtain ⟨a0_0, a0_1, w0_0, w0_1, rfl⟩ := open35 (hval 0 35 v0 rfl rfl) h0
  have k1 := h1
  have lt1 : ∀ x ∈ p1, x.block < W.heap.size := by obtain ⟨m, hm⟩ := k1; exact DataW.trod_lt m _ _ _ hm
  obtain ⟨a1_0, a1_1, a1_2, a1_3, a1_4, a1_5, a1_6, a1_7, w1_0, w1_1, w1_2, w1_3, w1_4, w1_5, w1_6, w1_7, rfl⟩ := open37 (hval 1 37 v1 rfl rfl) h1
  clear hA0 hval0
  refine (walk a0_0 a0_1 a1_0 a1_1 a1_2 a1_3 a1_4 a1_5 a1_6 a1_7 W w0_0 w0_1 w1_0 w1_1 w1_2 w1_3 w1_4 w1_5 w1_6 w1_7).mono fun e W' ⟨he, bel⟩ => ?_
  subst he
  exact ⟨_, rfl, _, _, _, [], _, [], hW', trodAll_mk1 (shut_bool Try.underlying4 _), (trodAll_cons_mk (Below.trod laidOut (by kernel_rfl) (of_decide_eq_true (by kernel_rfl)) k0 bel lt0) (trodAll_cons_mk (Below.trod laidOut (by kernel_rfl) (of_decide_eq_true (by kernel_rfl)) k1 bel lt1) trodAll_mk0)), rfl, bel.frame _, fun h => by cases h⟩

theorem over : Rows.tagPutsRow.holds Try.pinned (OpenSpec.ofChange Rows.tagPutsSpec) :=
  OpenClaim.holds_of_wide 4 Try.f4 rfl rfl rfl rfl rfl rfl rfl ⟨rfl, rfl, rfl, rfl, rfl⟩ rfl rfl rfl rfl rfl (by kernel_rfl) Try.func4 (by kernel_rfl)
    (of_decide_eq_true (by kernel_rfl)) (by unfold Func.isWrapper; first | (rw [if_pos (by decide +kernel)]; kernel_rfl) | (rw [if_neg (by decide +kernel)]; exact ⟨rfl, rfl⟩))
    (fun os started H enc _ => lifted os started H enc)

theorem proved : Rows.TagPutsSaid := over
#print axioms proved
end Go.Proofs.Ytggcomociojfoaa.tagPuts
