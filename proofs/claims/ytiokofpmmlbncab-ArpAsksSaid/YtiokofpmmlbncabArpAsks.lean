/- What one asks, and is answered, is the request and the reply that the document names, and the answer's frame is the right one; the statement holds for every input, without conditions. -/
import Derived.Test.YtiokofpmmlbncabRows
import Derived.WalkKit
import Derived.ProofKit
import Derived.OpenShut
import Derived.ShutString
import Derived.ChangeOld
import Derived.Below
import Derived.Lib.SmallJoins
import Derived.Test.YtiokofpmmlbncabLaw05a
namespace Go.Proofs.Ytiokofpmmlbncab.arpAsks
open Go.ChangeShapes Go.WideShapes Go.ChangeAt Go.RowKit
open Go.ChangeMaps (open_string shut_string)
set_option linter.unusedVariables false

theorem own : ownKnob Try.prog.godebug = none := by kernel_rfl
theorem laidOut : laidOutB Try.prog = true := by kernel_rfl

def IsRow (k : IntKind) (w : World) (a : Option Addr) (len cap : Nat) (zs : List Int) : Prop :=
  (a = none ∧ len = 0 ∧ cap = 0 ∧ zs = []) ∨
  ∃ x, a = some x ∧ len ≤ cap ∧ cap ≤ maxLen ∧ zs.length = cap ∧ (∀ i, i < zs.length → w.cell? (x.add i) = some (.int k (zs.getD i 0))) ∧ ∀ n ∈ zs, (Lit.int k n).wf = true

theorem cons_of {α : Type} {l : List α} {n : Nat} (h : l.length = n + 1) : ∃ c l1, l = c :: l1 ∧ l1.length = n := by
  cases l with
  | nil => cases h
  | cons c l => exact ⟨c, l, rfl, by simpa using h⟩
theorem cells5 : Try.prog.cellsOf 5 = 1 := by kernel_rfl
theorem cells45 : Try.prog.cellsOf 45 = 6 := by kernel_rfl
theorem okArray {P : Program} {w : World} {r : Reach} {base : Nat} {v : Value} {n : Nat} {e t : TypeId} (ht : P.underlying t = some (.array n e)) (h : Value.okWide P w r base t v) : ∃ cs, v = .agg cs ∧ cs.size = P.cellsOf t := by
  simp only [Value.okWide, ht] at h
  obtain ⟨cs, h1, h2, _⟩ := h
  exact ⟨cs, h1, h2⟩
theorem isRow_of {H : Type} {enc : TypeId × Value → H} {P : Program} {W : World} {t e : TypeId} {k : IntKind} {n : Nat} {a : Option Addr} {len cap : Nat} {y : DataW H × List MemPlace} (ht : P.underlying t = some (.slice e)) (he : P.underlying e = some (.int k)) (hc : P.cellsOf e = 1)
    (hf : DataW.trod enc P W 0 (fun _ => true) true n t [.slice a len cap] = some y) : ∃ zs, IsRow k W a len cap zs := by
  rcases open_ints ht he hc hf with ⟨hcs, _⟩ | ⟨x, l, c, zs, hcs, _, hl, hm, hz, _, hcell, hwz⟩
  · simp at hcs
    obtain ⟨rfl, rfl, rfl⟩ := hcs
    exact ⟨[], .inl ⟨rfl, rfl, rfl, rfl⟩⟩
  · simp at hcs
    obtain ⟨rfl, rfl, rfl⟩ := hcs
    exact ⟨zs, .inr ⟨_, rfl, hl, hm, by simpa using hz, hcell, hwz⟩⟩
theorem list6 {α : Type} (l : List α) (h : l.length = 6) : ∃ c0 c1 c2 c3 c4 c5, l = [c0, c1, c2, c3, c4, c5] := by
  obtain ⟨c0, l0, e0, h0⟩ := cons_of h
  obtain ⟨c1, l1, e1, h1⟩ := cons_of h0
  obtain ⟨c2, l2, e2, h2⟩ := cons_of h1
  obtain ⟨c3, l3, e3, h3⟩ := cons_of h2
  obtain ⟨c4, l4, e4, h4⟩ := cons_of h3
  obtain ⟨c5, l5, e5, h5⟩ := cons_of h4
  have e6 := List.eq_nil_of_length_eq_zero h5
  subst e6 e5 e4 e3 e2 e1 e0
  exact ⟨c0, c1, c2, c3, c4, c5, rfl⟩
set_option maxRecDepth 100000 in
theorem open45 {H : Type} {enc : TypeId × Value → H} {W : World} {base : Nat} {v : Value} {d : DataW H} {p : List MemPlace} (hv : Value.okWide Try.prog W .any base 45 v) (h : DataW.Trod enc Try.prog W 0 (fun _ => true) true 45 v d p) :
    ∃ (ax_0 : Int) (ax_1 : Int) (ax_2 : Int) (ax_3 : Int) (ax_4 : Int) (ax_5 : Int), (Lit.int .u8 ax_0).wf = true ∧ (Lit.int .u8 ax_1).wf = true ∧ (Lit.int .u8 ax_2).wf = true ∧ (Lit.int .u8 ax_3).wf = true ∧ (Lit.int .u8 ax_4).wf = true ∧ (Lit.int .u8 ax_5).wf = true ∧ v = .agg #[.int .u8 ax_0, .int .u8 ax_1, .int .u8 ax_2, .int .u8 ax_3, .int .u8 ax_4, .int .u8 ax_5] := by
  obtain ⟨cs, rfl, hsz⟩ := okArray Try.underlying45 hv
  rw [cells45] at hsz
  obtain ⟨l⟩ := cs
  have hsz2 : l.length = 6 := hsz
  obtain ⟨c0, c1, c2, c3, c4, c5, rfl⟩ := list6 l hsz2
  obtain ⟨fuel, hf⟩ := h
  have hf : DataW.trod enc Try.prog W 0 (fun _ => true) true fuel 45 [c0, c1, c2, c3, c4, c5] = some (d, p) := hf
  obtain ⟨xs0, n0, -, -, -, hl0, hx0⟩ := DataW.trod_array Try.underlying45 hf
  obtain ⟨y0_0, hy0_0⟩ : ∃ y, xs0[0]? = some y := ⟨_, List.getElem?_eq_getElem (by rw [hl0]; decide)⟩
  have g0_0 : DataW.trod enc Try.prog W 0 (fun _ => true) true n0 5 [c0] = some y0_0 := by
    have g0 := hx0 0 (by decide)
    rw [hy0_0] at g0
    simpa [Value.cells, cells5] using g0
  obtain ⟨y0_1, hy0_1⟩ : ∃ y, xs0[1]? = some y := ⟨_, List.getElem?_eq_getElem (by rw [hl0]; decide)⟩
  have g0_1 : DataW.trod enc Try.prog W 0 (fun _ => true) true n0 5 [c1] = some y0_1 := by
    have g0 := hx0 1 (by decide)
    rw [hy0_1] at g0
    simpa [Value.cells, cells5] using g0
  obtain ⟨y0_2, hy0_2⟩ : ∃ y, xs0[2]? = some y := ⟨_, List.getElem?_eq_getElem (by rw [hl0]; decide)⟩
  have g0_2 : DataW.trod enc Try.prog W 0 (fun _ => true) true n0 5 [c2] = some y0_2 := by
    have g0 := hx0 2 (by decide)
    rw [hy0_2] at g0
    simpa [Value.cells, cells5] using g0
  obtain ⟨y0_3, hy0_3⟩ : ∃ y, xs0[3]? = some y := ⟨_, List.getElem?_eq_getElem (by rw [hl0]; decide)⟩
  have g0_3 : DataW.trod enc Try.prog W 0 (fun _ => true) true n0 5 [c3] = some y0_3 := by
    have g0 := hx0 3 (by decide)
    rw [hy0_3] at g0
    simpa [Value.cells, cells5] using g0
  obtain ⟨y0_4, hy0_4⟩ : ∃ y, xs0[4]? = some y := ⟨_, List.getElem?_eq_getElem (by rw [hl0]; decide)⟩
  have g0_4 : DataW.trod enc Try.prog W 0 (fun _ => true) true n0 5 [c4] = some y0_4 := by
    have g0 := hx0 4 (by decide)
    rw [hy0_4] at g0
    simpa [Value.cells, cells5] using g0
  obtain ⟨y0_5, hy0_5⟩ : ∃ y, xs0[5]? = some y := ⟨_, List.getElem?_eq_getElem (by rw [hl0]; decide)⟩
  have g0_5 : DataW.trod enc Try.prog W 0 (fun _ => true) true n0 5 [c5] = some y0_5 := by
    have g0 := hx0 5 (by decide)
    rw [hy0_5] at g0
    simpa [Value.cells, cells5] using g0
  clear hf hx0
  obtain ⟨ax_0, ex_0, -, wx_0⟩ := DataW.trod_int Try.underlying5 g0_0
  obtain rfl : c0 = .int .u8 ax_0 := by simpa using ex_0
  clear g0_0 ex_0
  obtain ⟨ax_1, ex_1, -, wx_1⟩ := DataW.trod_int Try.underlying5 g0_1
  obtain rfl : c1 = .int .u8 ax_1 := by simpa using ex_1
  clear g0_1 ex_1
  obtain ⟨ax_2, ex_2, -, wx_2⟩ := DataW.trod_int Try.underlying5 g0_2
  obtain rfl : c2 = .int .u8 ax_2 := by simpa using ex_2
  clear g0_2 ex_2
  obtain ⟨ax_3, ex_3, -, wx_3⟩ := DataW.trod_int Try.underlying5 g0_3
  obtain rfl : c3 = .int .u8 ax_3 := by simpa using ex_3
  clear g0_3 ex_3
  obtain ⟨ax_4, ex_4, -, wx_4⟩ := DataW.trod_int Try.underlying5 g0_4
  obtain rfl : c4 = .int .u8 ax_4 := by simpa using ex_4
  clear g0_4 ex_4
  obtain ⟨ax_5, ex_5, -, wx_5⟩ := DataW.trod_int Try.underlying5 g0_5
  obtain rfl : c5 = .int .u8 ax_5 := by simpa using ex_5
  clear g0_5 ex_5
  exact ⟨ax_0, ax_1, ax_2, ax_3, ax_4, ax_5, wx_0, wx_1, wx_2, wx_3, wx_4, wx_5, rfl⟩

theorem walk (a0_0 : Int) (a0_1 : Int) (a0_2 : Int) (a0_3 : Int) (a0_4 : Int) (a0_5 : Int) (a1_0 : Int) (a1_1 : Int) (a1_2 : Int) (a1_3 : Int) (a1_4 : Int) (a1_5 : Int) (a2 : Int) (a3 : Int) (a4_0 : Int) (a4_1 : Int) (a4_2 : Int) (a4_3 : Int) (a4_4 : Int) (a4_5 : Int) (w : World) (w0_0 : (Lit.int .u8 a0_0).wf = true) (w0_1 : (Lit.int .u8 a0_1).wf = true) (w0_2 : (Lit.int .u8 a0_2).wf = true) (w0_3 : (Lit.int .u8 a0_3).wf = true) (w0_4 : (Lit.int .u8 a0_4).wf = true) (w0_5 : (Lit.int .u8 a0_5).wf = true) (w1_0 : (Lit.int .u8 a1_0).wf = true) (w1_1 : (Lit.int .u8 a1_1).wf = true) (w1_2 : (Lit.int .u8 a1_2).wf = true) (w1_3 : (Lit.int .u8 a1_3).wf = true) (w1_4 : (Lit.int .u8 a1_4).wf = true) (w1_5 : (Lit.int .u8 a1_5).wf = true) (w2 : (Lit.int .u32 a2).wf = true) (w3 : (Lit.int .u32 a3).wf = true) (w4_0 : (Lit.int .u8 a4_0).wf = true) (w4_1 : (Lit.int .u8 a4_1).wf = true) (w4_2 : (Lit.int .u8 a4_2).wf = true) (w4_3 : (Lit.int .u8 a4_3).wf = true) (w4_4 : (Lit.int .u8 a4_4).wf = true) (w4_5 : (Lit.int .u8 a4_5).wf = true) :
    Calls Try.prog 7 #[.agg #[.int .u8 a0_0, .int .u8 a0_1, .int .u8 a0_2, .int .u8 a0_3, .int .u8 a0_4, .int .u8 a0_5], .agg #[.int .u8 a1_0, .int .u8 a1_1, .int .u8 a1_2, .int .u8 a1_3, .int .u8 a1_4, .int .u8 a1_5], .int .u32 a2, .int .u32 a3, .agg #[.int .u8 a4_0, .int .u8 a4_1, .int .u8 a4_2, .int .u8 a4_3, .int .u8 a4_4, .int .u8 a4_5]] w fun e w' => e = .returned (.bool true) ∧ Below w.heap.size w w' := by
  exact ArpAsks_walk a0_0 a0_1 a0_2 a0_3 a0_4 a0_5 a1_0 a1_1 a1_2 a1_3 a1_4 a1_5 a2 a3 a4_0 a4_1 a4_2 a4_3 a4_4 a4_5 w w0_0 w0_1 w0_2 w0_3 w0_4 w0_5 w1_0 w1_1 w1_2 w1_3 w1_4 w1_5 w2 w3 w4_0 w4_1 w4_2 w4_3 w4_4 w4_5

set_option maxRecDepth 100000 in
theorem lifted (os : Os) (started : os.Started) (H : Type) (enc : TypeId × Value → H) :
    ReturnsInHanded {} Try.checked os 7 .any (Rows.arpAsksSpec.pre6 enc Try.prog Try.f7 Rows.arpAsksRow.domain false) (Rows.arpAsksSpec.post enc Try.prog Try.f7 false true false false) := by
  refine returnsInHanded_of_change (C := Try.checked) own started (by kernel_rfl) Try.func7
    (ChangeSpec.witness6 (enc := enc) (C := Try.checked) false ⟨#[], #[.agg #[.int .u8 0, .int .u8 0, .int .u8 0, .int .u8 0, .int .u8 0, .int .u8 0], .agg #[.int .u8 0, .int .u8 0, .int .u8 0, .int .u8 0, .int .u8 0, .int .u8 0], .int .u32 0, .int .u32 0, .agg #[.int .u8 0, .int .u8 0, .int .u8 0, .int .u8 0, .int .u8 0, .int .u8 0]], []⟩ 8 (by kernel_rfl) (by kernel_rfl) (by kernel_rfl) (by kernel_rfl)) ?_
  intro W base args ds gs before hval0 hW hcnd _
  have hval : ∀ (j : Nat) t v, Try.f7.params[j]? = some t → args[j]? = some v → Value.okWide Try.prog W .any base t v := hval0
  have hW' := hW
  obtain ⟨p, q, hA0, hV, rfl, hfz, hnd⟩ := hW
  have hA : DataW.TrodAll enc Try.prog W 0 (fun _ => true) true Try.f7.params.toList args.toList ds p := hA0
  rw [Try.params7] at hA hval
  obtain ⟨v0, vs0, d0, ds0, p0, q0, hargs, rfl, rfl, h0, r0⟩ := trodAll_cons hA
  obtain ⟨v1, vs1, d1, ds1, p1, q1, rfl, rfl, rfl, h1, r1⟩ := trodAll_cons r0
  obtain ⟨v2, vs2, d2, ds2, p2, q2, rfl, rfl, rfl, h2, r2⟩ := trodAll_cons r1
  obtain ⟨v3, vs3, d3, ds3, p3, q3, rfl, rfl, rfl, h3, r3⟩ := trodAll_cons r2
  obtain ⟨v4, vs4, d4, ds4, p4, q4, rfl, rfl, rfl, h4, r4⟩ := trodAll_cons r3
  obtain ⟨rfl, rfl, rfl⟩ := trodAll_nil r4
  obtain rfl : args = #[v0, v1, v2, v3, v4] := by cases args; simp_all
  obtain ⟨rfl, rfl⟩ := trodVars_none hV
  have k0 := h0
  have lt0 : ∀ x ∈ p0, x.block < W.heap.size := by obtain ⟨m, hm⟩ := k0; exact DataW.trod_lt m _ _ _ hm
  obtain ⟨a0_0, a0_1, a0_2, a0_3, a0_4, a0_5, w0_0, w0_1, w0_2, w0_3, w0_4, w0_5, rfl⟩ := open45 (hval 0 45 v0 rfl rfl) h0
  have k1 := h1
  have lt1 : ∀ x ∈ p1, x.block < W.heap.size := by obtain ⟨m, hm⟩ := k1; exact DataW.trod_lt m _ _ _ hm
  obtain ⟨a1_0, a1_1, a1_2, a1_3, a1_4, a1_5, w1_0, w1_1, w1_2, w1_3, w1_4, w1_5, rfl⟩ := open45 (hval 1 45 v1 rfl rfl) h1
  obtain ⟨a2, rfl, rfl, rfl, w2⟩ := open_int Try.underlying25 (hval 2 25 v2 rfl rfl) h2
  obtain ⟨a3, rfl, rfl, rfl, w3⟩ := open_int Try.underlying25 (hval 3 25 v3 rfl rfl) h3
  have k4 := h4
  have lt4 : ∀ x ∈ p4, x.block < W.heap.size := by obtain ⟨m, hm⟩ := k4; exact DataW.trod_lt m _ _ _ hm
  obtain ⟨a4_0, a4_1, a4_2, a4_3, a4_4, a4_5, w4_0, w4_1, w4_2, w4_3, w4_4, w4_5, rfl⟩ := open45 (hval 4 45 v4 rfl rfl) h4
  clear hA0 hval0
  refine (walk a0_0 a0_1 a0_2 a0_3 a0_4 a0_5 a1_0 a1_1 a1_2 a1_3 a1_4 a1_5 a2 a3 a4_0 a4_1 a4_2 a4_3 a4_4 a4_5 W w0_0 w0_1 w0_2 w0_3 w0_4 w0_5 w1_0 w1_1 w1_2 w1_3 w1_4 w1_5 w2 w3 w4_0 w4_1 w4_2 w4_3 w4_4 w4_5).mono fun e W' ⟨he, bel⟩ => ?_
  subst he
  exact ⟨_, rfl, _, _, _, [], _, [], hW', trodAll_mk1 (shut_bool Try.underlying4 _), (trodAll_cons_mk (Below.trod laidOut (by kernel_rfl) (of_decide_eq_true (by kernel_rfl)) k0 bel lt0) (trodAll_cons_mk (Below.trod laidOut (by kernel_rfl) (of_decide_eq_true (by kernel_rfl)) k1 bel lt1) (trodAll_cons_mk (shut_int Try.underlying25 w2) (trodAll_cons_mk (shut_int Try.underlying25 w3) (trodAll_cons_mk (Below.trod laidOut (by kernel_rfl) (of_decide_eq_true (by kernel_rfl)) k4 bel lt4) trodAll_mk0))))), rfl, bel.frame _, fun h => by cases h⟩

theorem over : Rows.arpAsksRow.holds Try.pinned (OpenSpec.ofChange Rows.arpAsksSpec) :=
  OpenClaim.holds_of_wide 7 Try.f7 rfl rfl rfl rfl rfl rfl rfl ⟨rfl, rfl, rfl, rfl, rfl⟩ rfl rfl rfl rfl rfl (by kernel_rfl) Try.func7 (by kernel_rfl)
    (of_decide_eq_true (by kernel_rfl)) (by unfold Func.isWrapper; first | (rw [if_pos (by decide +kernel)]; kernel_rfl) | (rw [if_neg (by decide +kernel)]; exact ⟨rfl, rfl⟩))
    (fun os started H enc _ => lifted os started H enc)

theorem proved : Rows.ArpAsksSaid := over
#print axioms proved
end Go.Proofs.Ytiokofpmmlbncab.arpAsks
