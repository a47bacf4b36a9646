/- Proved: for every input of the given statement on quote.Of (which flow any message tells of, or why of none) the function of the statement returns true and leaves its arguments as they were; no condition beside the form's own (any message, any data). -/
import Derived.Test.YtkoamiefombilaaRows
import Derived.WalkKit
import Derived.ProofKit
import Derived.OpenShut
import Derived.ShutString
import Derived.ChangeOld
import Derived.Below
import Derived.Lib.SmallJoins
import Derived.Test.YtkoamiefombilaaLaw12
namespace Go.Proofs.Ytkoamiefombilaa.quoteOf
open Go.ChangeShapes Go.WideShapes Go.ChangeAt Go.RowKit
open Go.ChangeMaps (open_string shut_string)
set_option linter.unusedVariables false

theorem own : ownKnob Try.prog.godebug = none := by kernel_rfl
theorem laidOut : laidOutB Try.prog = true := by kernel_rfl

def IsRow (k : IntKind) (w : World) (a : Option Addr) (len cap : Nat) (zs : List Int) : Prop :=
  (a = none ∧ len = 0 ∧ cap = 0 ∧ zs = []) ∨
  ∃ x, a = some x ∧ len ≤ cap ∧ cap ≤ maxLen ∧ zs.length = cap ∧ (∀ i, i < zs.length → w.cell? (x.add i) = some (.int k (zs.getD i 0))) ∧ ∀ n ∈ zs, (Lit.int k n).wf = true

theorem cons_of {α : Type} {l : List α} {n : Nat} (h : l.length = n + 1) : ∃ c l1, l = c :: l1 ∧ l1.length = n := by
  cases l with
  | nil => cases h
  | cons c l => exact ⟨c, l, rfl, by simpa using h⟩
theorem cells5 : Try.prog.cellsOf 5 = 1 := by kernel_rfl
theorem cells22 : Try.prog.cellsOf 22 = 1 := by kernel_rfl
theorem cells23 : Try.prog.cellsOf 23 = 1 := by kernel_rfl
theorem cells25 : Try.prog.cellsOf 25 = 4 := by kernel_rfl
theorem okArray {P : Program} {w : World} {r : Reach} {base : Nat} {v : Value} {n : Nat} {e t : TypeId} (ht : P.underlying t = some (.array n e)) (h : Value.okWide P w r base t v) : ∃ cs, v = .agg cs ∧ cs.size = P.cellsOf t := by
  simp only [Value.okWide, ht] at h
  obtain ⟨cs, h1, h2, _⟩ := h
  exact ⟨cs, h1, h2⟩
theorem isRow_of {H : Type} {enc : TypeId × Value → H} {P : Program} {W : World} {t e : TypeId} {k : IntKind} {n : Nat} {a : Option Addr} {len cap : Nat} {y : DataW H × List MemPlace} (ht : P.underlying t = some (.slice e)) (he : P.underlying e = some (.int k)) (hc : P.cellsOf e = 1)
    (hf : DataW.trod enc P W 0 (fun _ => true) true n t [.slice a len cap] = some y) : ∃ zs, IsRow k W a len cap zs := by
  rcases open_ints ht he hc hf with ⟨hcs, _⟩ | ⟨x, l, c, zs, hcs, _, hl, hm, hz, _, hcell, hwz⟩
  · simp at hcs
    obtain ⟨rfl, rfl, rfl⟩ := hcs
    exact ⟨[], .inl ⟨rfl, rfl, rfl, rfl⟩⟩
  · simp at hcs
    obtain ⟨rfl, rfl, rfl⟩ := hcs
    exact ⟨zs, .inr ⟨_, rfl, hl, hm, by simpa using hz, hcell, hwz⟩⟩
theorem list4 {α : Type} (l : List α) (h : l.length = 4) : ∃ c0 c1 c2 c3, l = [c0, c1, c2, c3] := by
  obtain ⟨c0, l0, e0, h0⟩ := cons_of h
  obtain ⟨c1, l1, e1, h1⟩ := cons_of h0
  obtain ⟨c2, l2, e2, h2⟩ := cons_of h1
  obtain ⟨c3, l3, e3, h3⟩ := cons_of h2
  have e4 := List.eq_nil_of_length_eq_zero h3
  subst e4 e3 e2 e1 e0
  exact ⟨c0, c1, c2, c3, rfl⟩
set_option maxRecDepth 100000 in
theorem open25 {H : Type} {enc : TypeId × Value → H} {W : World} {base : Nat} {v : Value} {d : DataW H} {p : List MemPlace} (hv : Value.okWide Try.prog W .any base 25 v) (h : DataW.Trod enc Try.prog W 0 (fun _ => true) true 25 v d p) :
    ∃ (ax_0 : Int) (ax_1 : Int) (ax_2 : Int) (ax_3 : Option Addr) (lenx_3 capx_3 : Nat) (zx_3 : List Int), (Lit.int .u8 ax_0).wf = true ∧ (Lit.int .u8 ax_1).wf = true ∧ (Lit.int .u32 ax_2).wf = true ∧ IsRow .u8 W ax_3 lenx_3 capx_3 zx_3 ∧ v = .agg #[.int .u8 ax_0, .int .u8 ax_1, .int .u32 ax_2, .slice ax_3 lenx_3 capx_3] := by
  obtain ⟨cs, rfl, hsz⟩ := okWide_struct Try.underlying25 hv
  rw [cells25] at hsz
  obtain ⟨l⟩ := cs
  have hsz2 : l.length = 4 := hsz
  obtain ⟨c0, c1, c2, c3, rfl⟩ := list4 l hsz2
  obtain ⟨fuel, hf⟩ := h
  have hf : DataW.trod enc Try.prog W 0 (fun _ => true) true fuel 25 [c0, c1, c2, c3] = some (d, p) := hf
  obtain ⟨xs0, n0, -, -, -, hl0, hx0⟩ := DataW.trod_struct Try.underlying25 hf
  obtain ⟨y0_0, hy0_0⟩ : ∃ y, xs0[0]? = some y := ⟨_, List.getElem?_eq_getElem (by rw [hl0]; decide)⟩
  have g0_0 : DataW.trod enc Try.prog W 0 (fun _ => true) true n0 5 [c0] = some y0_0 := by
    have g0 := hx0 0 _ rfl
    rw [hy0_0] at g0
    simpa [Value.cells, cells5] using g0
  obtain ⟨y0_1, hy0_1⟩ : ∃ y, xs0[1]? = some y := ⟨_, List.getElem?_eq_getElem (by rw [hl0]; decide)⟩
  have g0_1 : DataW.trod enc Try.prog W 0 (fun _ => true) true n0 5 [c1] = some y0_1 := by
    have g0 := hx0 1 _ rfl
    rw [hy0_1] at g0
    simpa [Value.cells, cells5] using g0
  obtain ⟨y0_2, hy0_2⟩ : ∃ y, xs0[2]? = some y := ⟨_, List.getElem?_eq_getElem (by rw [hl0]; decide)⟩
  have g0_2 : DataW.trod enc Try.prog W 0 (fun _ => true) true n0 22 [c2] = some y0_2 := by
    have g0 := hx0 2 _ rfl
    rw [hy0_2] at g0
    simpa [Value.cells, cells22] using g0
  obtain ⟨y0_3, hy0_3⟩ : ∃ y, xs0[3]? = some y := ⟨_, List.getElem?_eq_getElem (by rw [hl0]; decide)⟩
  have g0_3 : DataW.trod enc Try.prog W 0 (fun _ => true) true n0 23 [c3] = some y0_3 := by
    have g0 := hx0 3 _ rfl
    rw [hy0_3] at g0
    simpa [Value.cells, cells23] using g0
  clear hf hx0
  obtain ⟨ax_0, ex_0, -, wx_0⟩ := DataW.trod_int Try.underlying5 g0_0
  obtain rfl : c0 = .int .u8 ax_0 := by simpa using ex_0
  clear g0_0 ex_0
  obtain ⟨ax_1, ex_1, -, wx_1⟩ := DataW.trod_int Try.underlying5 g0_1
  obtain rfl : c1 = .int .u8 ax_1 := by simpa using ex_1
  clear g0_1 ex_1
  obtain ⟨ax_2, ex_2, -, wx_2⟩ := DataW.trod_int Try.underlying22 g0_2
  obtain rfl : c2 = .int .u32 ax_2 := by simpa using ex_2
  clear g0_2 ex_2
  obtain ⟨ax_3, lenx_3, capx_3, ex_3⟩ := Go.Joins.slice_form Try.underlying23 g0_3
  obtain rfl : c3 = .slice ax_3 lenx_3 capx_3 := by simpa using ex_3
  obtain ⟨zx_3, wx_3⟩ := isRow_of Try.underlying23 Try.underlying5 (by kernel_rfl) g0_3
  clear g0_3 ex_3
  exact ⟨ax_0, ax_1, ax_2, ax_3, lenx_3, capx_3, zx_3, wx_0, wx_1, wx_2, wx_3, rfl⟩

theorem walk (a0_0 : Int) (a0_1 : Int) (a0_2 : Int) (a0_3 : Option Addr) (len0_3 cap0_3 : Nat) (z0_3 : List Int) (w : World) (w0_0 : (Lit.int .u8 a0_0).wf = true) (w0_1 : (Lit.int .u8 a0_1).wf = true) (w0_2 : (Lit.int .u32 a0_2).wf = true) (w0_3 : IsRow .u8 w a0_3 len0_3 cap0_3 z0_3) :
    Calls Try.prog 3 #[.agg #[.int .u8 a0_0, .int .u8 a0_1, .int .u32 a0_2, .slice a0_3 len0_3 cap0_3]] w fun e w' => e = .returned (.bool true) ∧ Below w.heap.size w w' := by
  exact QuoteOf_walk a0_0 a0_1 a0_2 a0_3 len0_3 cap0_3 z0_3 w w0_0 w0_1 w0_2 w0_3

set_option maxRecDepth 100000 in
theorem lifted (os : Os) (started : os.Started) (H : Type) (enc : TypeId × Value → H) :
    ReturnsInHanded {} Try.checked os 3 .any (Rows.quoteOfSpec.pre6 enc Try.prog Try.f3 Rows.quoteOfRow.domain false) (Rows.quoteOfSpec.post enc Try.prog Try.f3 false true false false) := by
  refine returnsInHanded_of_change (C := Try.checked) own started (by kernel_rfl) Try.func3
    (ChangeSpec.witness6 (enc := enc) (C := Try.checked) false ⟨#[], #[.agg #[.int .u8 0, .int .u8 0, .int .u32 0, .slice none 0 0]], []⟩ 8 (by kernel_rfl) (by kernel_rfl) (by kernel_rfl) (by kernel_rfl)) ?_
  intro W base args ds gs before hval0 hW hcnd _
  have hval : ∀ (j : Nat) t v, Try.f3.params[j]? = some t → args[j]? = some v → Value.okWide Try.prog W .any base t v := hval0
  have hW' := hW
  obtain ⟨p, q, hA0, hV, rfl, hfz, hnd⟩ := hW
  have hA : DataW.TrodAll enc Try.prog W 0 (fun _ => true) true Try.f3.params.toList args.toList ds p := hA0
  rw [Try.params3] at hA hval
  obtain ⟨v0, vs0, d0, ds0, p0, q0, hargs, rfl, rfl, h0, r0⟩ := trodAll_cons hA
  obtain ⟨rfl, rfl, rfl⟩ := trodAll_nil r0
  obtain rfl : args = #[v0] := by cases args; simp_all
  obtain ⟨rfl, rfl⟩ := trodVars_none hV
  have k0 := h0
  have lt0 : ∀ x ∈ p0, x.block < W.heap.size := by obtain ⟨m, hm⟩ := k0; exact DataW.trod_lt m _ _ _ hm
  obtain ⟨a0_0, a0_1, a0_2, a0_3, len0_3, cap0_3, z0_3, w0_0, w0_1, w0_2, w0_3, rfl⟩ := open25 (hval 0 25 v0 rfl rfl) h0
  clear hA0 hval0
  refine (walk a0_0 a0_1 a0_2 a0_3 len0_3 cap0_3 z0_3 W w0_0 w0_1 w0_2 w0_3).mono fun e W' ⟨he, bel⟩ => ?_
  subst he
  exact ⟨_, rfl, _, _, _, [], _, [], hW', trodAll_mk1 (shut_bool Try.underlying4 _), (trodAll_cons_mk (Below.trod laidOut (by kernel_rfl) (of_decide_eq_true (by kernel_rfl)) k0 bel lt0) trodAll_mk0), rfl, bel.frame _, fun h => by cases h⟩

theorem over : Rows.quoteOfRow.holds Try.pinned (OpenSpec.ofChange Rows.quoteOfSpec) :=
  OpenClaim.holds_of_wide 3 Try.f3 rfl rfl rfl rfl rfl rfl rfl ⟨rfl, rfl, rfl, rfl, rfl⟩ rfl rfl rfl rfl rfl (by kernel_rfl) Try.func3 (by kernel_rfl)
    (of_decide_eq_true (by kernel_rfl)) (by unfold Func.isWrapper; first | (rw [if_pos (by decide +kernel)]; kernel_rfl) | (rw [if_neg (by decide +kernel)]; exact ⟨rfl, rfl⟩))
    (fun os started H enc _ => lifted os started H enc)

theorem proved : Rows.QuoteOfSaid := over
#print axioms proved
end Go.Proofs.Ytkoamiefombilaa.quoteOf
