/- Proved: for every input of the given statement on recv.Body (what the data of any packet are, or why they are nothing) the function of the statement returns true and leaves its arguments as they were; no condition beside the form's own. -/
import Derived.Test.YtkoamiefombilaaRows
import Derived.WalkKit
import Derived.ProofKit
import Derived.OpenShut
import Derived.ShutString
import Derived.ChangeOld
import Derived.Below
import Derived.Lib.SmallJoins
import Derived.Test.YtkoamiefombilaaLaw26b
namespace Go.Proofs.Ytkoamiefombilaa.recvBody
open Go.ChangeShapes Go.WideShapes Go.ChangeAt Go.RowKit
open Go.ChangeMaps (open_string shut_string)
set_option linter.unusedVariables false

theorem own : ownKnob Try.prog.godebug = none := by kernel_rfl
theorem laidOut : laidOutB Try.prog = true := by kernel_rfl

def IsRow (k : IntKind) (w : World) (a : Option Addr) (len cap : Nat) (zs : List Int) : Prop :=
  (a = none ∧ len = 0 ∧ cap = 0 ∧ zs = []) ∨
  ∃ x, a = some x ∧ len ≤ cap ∧ cap ≤ maxLen ∧ zs.length = cap ∧ (∀ i, i < zs.length → w.cell? (x.add i) = some (.int k (zs.getD i 0))) ∧ ∀ n ∈ zs, (Lit.int k n).wf = true

theorem cons_of {α : Type} {l : List α} {n : Nat} (h : l.length = n + 1) : ∃ c l1, l = c :: l1 ∧ l1.length = n := by
  cases l with
  | nil => cases h
  | cons c l => exact ⟨c, l, rfl, by simpa using h⟩
theorem cells5 : Try.prog.cellsOf 5 = 1 := by kernel_rfl
theorem cells27 : Try.prog.cellsOf 27 = 1 := by kernel_rfl
theorem cells4 : Try.prog.cellsOf 4 = 1 := by kernel_rfl
theorem cells22 : Try.prog.cellsOf 22 = 1 := by kernel_rfl
theorem cells23 : Try.prog.cellsOf 23 = 1 := by kernel_rfl
theorem cells38 : Try.prog.cellsOf 38 = 11 := by kernel_rfl
theorem okArray {P : Program} {w : World} {r : Reach} {base : Nat} {v : Value} {n : Nat} {e t : TypeId} (ht : P.underlying t = some (.array n e)) (h : Value.okWide P w r base t v) : ∃ cs, v = .agg cs ∧ cs.size = P.cellsOf t := by
  simp only [Value.okWide, ht] at h
  obtain ⟨cs, h1, h2, _⟩ := h
  exact ⟨cs, h1, h2⟩
theorem isRow_of {H : Type} {enc : TypeId × Value → H} {P : Program} {W : World} {t e : TypeId} {k : IntKind} {n : Nat} {a : Option Addr} {len cap : Nat} {y : DataW H × List MemPlace} (ht : P.underlying t = some (.slice e)) (he : P.underlying e = some (.int k)) (hc : P.cellsOf e = 1)
    (hf : DataW.trod enc P W 0 (fun _ => true) true n t [.slice a len cap] = some y) : ∃ zs, IsRow k W a len cap zs := by
  rcases open_ints ht he hc hf with ⟨hcs, _⟩ | ⟨x, l, c, zs, hcs, _, hl, hm, hz, _, hcell, hwz⟩
  · simp at hcs
    obtain ⟨rfl, rfl, rfl⟩ := hcs
    exact ⟨[], .inl ⟨rfl, rfl, rfl, rfl⟩⟩
  · simp at hcs
    obtain ⟨rfl, rfl, rfl⟩ := hcs
    exact ⟨zs, .inr ⟨_, rfl, hl, hm, by simpa using hz, hcell, hwz⟩⟩
theorem list11 {α : Type} (l : List α) (h : l.length = 11) : ∃ c0 c1 c2 c3 c4 c5 c6 c7 c8 c9 c10, l = [c0, c1, c2, c3, c4, c5, c6, c7, c8, c9, c10] := by
  obtain ⟨c0, l0, e0, h0⟩ := cons_of h
  obtain ⟨c1, l1, e1, h1⟩ := cons_of h0
  obtain ⟨c2, l2, e2, h2⟩ := cons_of h1
  obtain ⟨c3, l3, e3, h3⟩ := cons_of h2
  obtain ⟨c4, l4, e4, h4⟩ := cons_of h3
  obtain ⟨c5, l5, e5, h5⟩ := cons_of h4
  obtain ⟨c6, l6, e6, h6⟩ := cons_of h5
  obtain ⟨c7, l7, e7, h7⟩ := cons_of h6
  obtain ⟨c8, l8, e8, h8⟩ := cons_of h7
  obtain ⟨c9, l9, e9, h9⟩ := cons_of h8
  obtain ⟨c10, l10, e10, h10⟩ := cons_of h9
  have e11 := List.eq_nil_of_length_eq_zero h10
  subst e11 e10 e9 e8 e7 e6 e5 e4 e3 e2 e1 e0
  exact ⟨c0, c1, c2, c3, c4, c5, c6, c7, c8, c9, c10, rfl⟩
set_option maxRecDepth 100000 in
theorem open38 {H : Type} {enc : TypeId × Value → H} {W : World} {base : Nat} {v : Value} {d : DataW H} {p : List MemPlace} (hv : Value.okWide Try.prog W .any base 38 v) (h : DataW.Trod enc Try.prog W 0 (fun _ => true) true 38 v d p) :
    ∃ (ax_0 : Int) (ax_1 : Int) (ax_2 : Bool) (ax_3 : Bool) (ax_4 : Int) (ax_5 : Int) (ax_6 : Int) (ax_7 : Int) (ax_8 : Int) (ax_9 : Option Addr) (lenx_9 capx_9 : Nat) (zx_9 : List Int) (ax_10 : Option Addr) (lenx_10 capx_10 : Nat) (zx_10 : List Int), (Lit.int .u8 ax_0).wf = true ∧ (Lit.int .u16 ax_1).wf = true ∧ (Lit.int .u16 ax_4).wf = true ∧ (Lit.int .u8 ax_5).wf = true ∧ (Lit.int .u8 ax_6).wf = true ∧ (Lit.int .u32 ax_7).wf = true ∧ (Lit.int .u32 ax_8).wf = true ∧ IsRow .u8 W ax_9 lenx_9 capx_9 zx_9 ∧ IsRow .u8 W ax_10 lenx_10 capx_10 zx_10 ∧ v = .agg #[.int .u8 ax_0, .int .u16 ax_1, .bool ax_2, .bool ax_3, .int .u16 ax_4, .int .u8 ax_5, .int .u8 ax_6, .int .u32 ax_7, .int .u32 ax_8, .slice ax_9 lenx_9 capx_9, .slice ax_10 lenx_10 capx_10] := by
  obtain ⟨cs, rfl, hsz⟩ := okWide_struct Try.underlying38 hv
  rw [cells38] at hsz
  obtain ⟨l⟩ := cs
  have hsz2 : l.length = 11 := hsz
  obtain ⟨c0, c1, c2, c3, c4, c5, c6, c7, c8, c9, c10, rfl⟩ := list11 l hsz2
  obtain ⟨fuel, hf⟩ := h
  have hf : DataW.trod enc Try.prog W 0 (fun _ => true) true fuel 38 [c0, c1, c2, c3, c4, c5, c6, c7, c8, c9, c10] = some (d, p) := hf
  obtain ⟨xs0, n0, -, -, -, hl0, hx0⟩ := DataW.trod_struct Try.underlying38 hf
  obtain ⟨y0_0, hy0_0⟩ : ∃ y, xs0[0]? = some y := ⟨_, List.getElem?_eq_getElem (by rw [hl0]; decide)⟩
  have g0_0 : DataW.trod enc Try.prog W 0 (fun _ => true) true n0 5 [c0] = some y0_0 := by
    have g0 := hx0 0 _ rfl
    rw [hy0_0] at g0
    simpa [Value.cells, cells5] using g0
  obtain ⟨y0_1, hy0_1⟩ : ∃ y, xs0[1]? = some y := ⟨_, List.getElem?_eq_getElem (by rw [hl0]; decide)⟩
  have g0_1 : DataW.trod enc Try.prog W 0 (fun _ => true) true n0 27 [c1] = some y0_1 := by
    have g0 := hx0 1 _ rfl
    rw [hy0_1] at g0
    simpa [Value.cells, cells27] using g0
  obtain ⟨y0_2, hy0_2⟩ : ∃ y, xs0[2]? = some y := ⟨_, List.getElem?_eq_getElem (by rw [hl0]; decide)⟩
  have g0_2 : DataW.trod enc Try.prog W 0 (fun _ => true) true n0 4 [c2] = some y0_2 := by
    have g0 := hx0 2 _ rfl
    rw [hy0_2] at g0
    simpa [Value.cells, cells4] using g0
  obtain ⟨y0_3, hy0_3⟩ : ∃ y, xs0[3]? = some y := ⟨_, List.getElem?_eq_getElem (by rw [hl0]; decide)⟩
  have g0_3 : DataW.trod enc Try.prog W 0 (fun _ => true) true n0 4 [c3] = some y0_3 := by
    have g0 := hx0 3 _ rfl
    rw [hy0_3] at g0
    simpa [Value.cells, cells4] using g0
  obtain ⟨y0_4, hy0_4⟩ : ∃ y, xs0[4]? = some y := ⟨_, List.getElem?_eq_getElem (by rw [hl0]; decide)⟩
  have g0_4 : DataW.trod enc Try.prog W 0 (fun _ => true) true n0 27 [c4] = some y0_4 := by
    have g0 := hx0 4 _ rfl
    rw [hy0_4] at g0
    simpa [Value.cells, cells27] using g0
  obtain ⟨y0_5, hy0_5⟩ : ∃ y, xs0[5]? = some y := ⟨_, List.getElem?_eq_getElem (by rw [hl0]; decide)⟩
  have g0_5 : DataW.trod enc Try.prog W 0 (fun _ => true) true n0 5 [c5] = some y0_5 := by
    have g0 := hx0 5 _ rfl
    rw [hy0_5] at g0
    simpa [Value.cells, cells5] using g0
  obtain ⟨y0_6, hy0_6⟩ : ∃ y, xs0[6]? = some y := ⟨_, List.getElem?_eq_getElem (by rw [hl0]; decide)⟩
  have g0_6 : DataW.trod enc Try.prog W 0 (fun _ => true) true n0 5 [c6] = some y0_6 := by
    have g0 := hx0 6 _ rfl
    rw [hy0_6] at g0
    simpa [Value.cells, cells5] using g0
  obtain ⟨y0_7, hy0_7⟩ : ∃ y, xs0[7]? = some y := ⟨_, List.getElem?_eq_getElem (by rw [hl0]; decide)⟩
  have g0_7 : DataW.trod enc Try.prog W 0 (fun _ => true) true n0 22 [c7] = some y0_7 := by
    have g0 := hx0 7 _ rfl
    rw [hy0_7] at g0
    simpa [Value.cells, cells22] using g0
  obtain ⟨y0_8, hy0_8⟩ : ∃ y, xs0[8]? = some y := ⟨_, List.getElem?_eq_getElem (by rw [hl0]; decide)⟩
  have g0_8 : DataW.trod enc Try.prog W 0 (fun _ => true) true n0 22 [c8] = some y0_8 := by
    have g0 := hx0 8 _ rfl
    rw [hy0_8] at g0
    simpa [Value.cells, cells22] using g0
  obtain ⟨y0_9, hy0_9⟩ : ∃ y, xs0[9]? = some y := ⟨_, List.getElem?_eq_getElem (by rw [hl0]; decide)⟩
  have g0_9 : DataW.trod enc Try.prog W 0 (fun _ => true) true n0 23 [c9] = some y0_9 := by
    have g0 := hx0 9 _ rfl
    rw [hy0_9] at g0
    simpa [Value.cells, cells23] using g0
  obtain ⟨y0_10, hy0_10⟩ : ∃ y, xs0[10]? = some y := ⟨_, List.getElem?_eq_getElem (by rw [hl0]; decide)⟩
  have g0_10 : DataW.trod enc Try.prog W 0 (fun _ => true) true n0 23 [c10] = some y0_10 := by
    have g0 := hx0 10 _ rfl
    rw [hy0_10] at g0
    simpa [Value.cells, cells23] using g0
  clear hf hx0
  obtain ⟨ax_0, ex_0, -, wx_0⟩ := DataW.trod_int Try.underlying5 g0_0
  obtain rfl : c0 = .int .u8 ax_0 := by simpa using ex_0
  clear g0_0 ex_0
  obtain ⟨ax_1, ex_1, -, wx_1⟩ := DataW.trod_int Try.underlying27 g0_1
  obtain rfl : c1 = .int .u16 ax_1 := by simpa using ex_1
  clear g0_1 ex_1
  obtain ⟨ax_2, ex_2, -⟩ := DataW.trod_bool Try.underlying4 g0_2
  obtain rfl : c2 = .bool ax_2 := by simpa using ex_2
  clear g0_2 ex_2
  obtain ⟨ax_3, ex_3, -⟩ := DataW.trod_bool Try.underlying4 g0_3
  obtain rfl : c3 = .bool ax_3 := by simpa using ex_3
  clear g0_3 ex_3
  obtain ⟨ax_4, ex_4, -, wx_4⟩ := DataW.trod_int Try.underlying27 g0_4
  obtain rfl : c4 = .int .u16 ax_4 := by simpa using ex_4
  clear g0_4 ex_4
  obtain ⟨ax_5, ex_5, -, wx_5⟩ := DataW.trod_int Try.underlying5 g0_5
  obtain rfl : c5 = .int .u8 ax_5 := by simpa using ex_5
  clear g0_5 ex_5
  obtain ⟨ax_6, ex_6, -, wx_6⟩ := DataW.trod_int Try.underlying5 g0_6
  obtain rfl : c6 = .int .u8 ax_6 := by simpa using ex_6
  clear g0_6 ex_6
  obtain ⟨ax_7, ex_7, -, wx_7⟩ := DataW.trod_int Try.underlying22 g0_7
  obtain rfl : c7 = .int .u32 ax_7 := by simpa using ex_7
  clear g0_7 ex_7
  obtain ⟨ax_8, ex_8, -, wx_8⟩ := DataW.trod_int Try.underlying22 g0_8
  obtain rfl : c8 = .int .u32 ax_8 := by simpa using ex_8
  clear g0_8 ex_8
  obtain ⟨ax_9, lenx_9, capx_9, ex_9⟩ := Go.Joins.slice_form Try.underlying23 g0_9
  obtain rfl : c9 = .slice ax_9 lenx_9 capx_9 := by simpa using ex_9
  obtain ⟨zx_9, wx_9⟩ := isRow_of Try.underlying23 Try.underlying5 (by kernel_rfl) g0_9
  clear g0_9 ex_9
  obtain ⟨ax_10, lenx_10, capx_10, ex_10⟩ := Go.Joins.slice_form Try.underlying23 g0_10
  obtain rfl : c10 = .slice ax_10 lenx_10 capx_10 := by simpa using ex_10
  obtain ⟨zx_10, wx_10⟩ := isRow_of Try.underlying23 Try.underlying5 (by kernel_rfl) g0_10
  clear g0_10 ex_10
  exact ⟨ax_0, ax_1, ax_2, ax_3, ax_4, ax_5, ax_6, ax_7, ax_8, ax_9, lenx_9, capx_9, zx_9, ax_10, lenx_10, capx_10, zx_10, wx_0, wx_1, wx_4, wx_5, wx_6, wx_7, wx_8, wx_9, wx_10, rfl⟩

theorem walk (a0_0 : Int) (a0_1 : Int) (a0_2 : Bool) (a0_3 : Bool) (a0_4 : Int) (a0_5 : Int) (a0_6 : Int) (a0_7 : Int) (a0_8 : Int) (a0_9 : Option Addr) (len0_9 cap0_9 : Nat) (z0_9 : List Int) (a0_10 : Option Addr) (len0_10 cap0_10 : Nat) (z0_10 : List Int) (w : World) (w0_0 : (Lit.int .u8 a0_0).wf = true) (w0_1 : (Lit.int .u16 a0_1).wf = true) (w0_4 : (Lit.int .u16 a0_4).wf = true) (w0_5 : (Lit.int .u8 a0_5).wf = true) (w0_6 : (Lit.int .u8 a0_6).wf = true) (w0_7 : (Lit.int .u32 a0_7).wf = true) (w0_8 : (Lit.int .u32 a0_8).wf = true) (w0_9 : IsRow .u8 w a0_9 len0_9 cap0_9 z0_9) (w0_10 : IsRow .u8 w a0_10 len0_10 cap0_10 z0_10) :
    Calls Try.prog 5 #[.agg #[.int .u8 a0_0, .int .u16 a0_1, .bool a0_2, .bool a0_3, .int .u16 a0_4, .int .u8 a0_5, .int .u8 a0_6, .int .u32 a0_7, .int .u32 a0_8, .slice a0_9 len0_9 cap0_9, .slice a0_10 len0_10 cap0_10]] w fun e w' => e = .returned (.bool true) ∧ Below w.heap.size w w' := by
  exact RecvBody_walk a0_0 a0_1 a0_2 a0_3 a0_4 a0_5 a0_6 a0_7 a0_8 a0_9 len0_9 cap0_9 z0_9 a0_10 len0_10 cap0_10 z0_10 w w0_0 w0_1 w0_4 w0_5 w0_6 w0_7 w0_8 w0_9 w0_10

set_option maxRecDepth 100000 in
theorem lifted (os : Os) (started : os.Started) (H : Type) (enc : TypeId × Value → H) :
    ReturnsInHanded {} Try.checked os 5 .any (Rows.recvBodySpec.pre6 enc Try.prog Try.f5 Rows.recvBodyRow.domain false) (Rows.recvBodySpec.post enc Try.prog Try.f5 false true false false) := by
  refine returnsInHanded_of_change (C := Try.checked) own started (by kernel_rfl) Try.func5
    (ChangeSpec.witness6 (enc := enc) (C := Try.checked) false ⟨#[], #[.agg #[.int .u8 0, .int .u16 0, .bool false, .bool false, .int .u16 0, .int .u8 0, .int .u8 0, .int .u32 0, .int .u32 0, .slice none 0 0, .slice none 0 0]], []⟩ 8 (by kernel_rfl) (by kernel_rfl) (by kernel_rfl) (by kernel_rfl)) ?_
  intro W base args ds gs before hval0 hW hcnd _
  have hval : ∀ (j : Nat) t v, Try.f5.params[j]? = some t → args[j]? = some v → Value.okWide Try.prog W .any base t v := hval0
  have hW' := hW
  obtain ⟨p, q, hA0, hV, rfl, hfz, hnd⟩ := hW
  have hA : DataW.TrodAll enc Try.prog W 0 (fun _ => true) true Try.f5.params.toList args.toList ds p := hA0
  rw [Try.params5] at hA hval
  obtain ⟨v0, vs0, d0, ds0, p0, q0, hargs, rfl, rfl, h0, r0⟩ := trodAll_cons hA
  obtain ⟨rfl, rfl, rfl⟩ := trodAll_nil r0
  obtain rfl : args = #[v0] := by cases args; simp_all
  obtain ⟨rfl, rfl⟩ := trodVars_none hV
  have k0 := h0
  have lt0 : ∀ x ∈ p0, x.block < W.heap.size := by obtain ⟨m, hm⟩ := k0; exact DataW.trod_lt m _ _ _ hm
  obtain ⟨a0_0, a0_1, a0_2, a0_3, a0_4, a0_5, a0_6, a0_7, a0_8, a0_9, len0_9, cap0_9, z0_9, a0_10, len0_10, cap0_10, z0_10, w0_0, w0_1, w0_4, w0_5, w0_6, w0_7, w0_8, w0_9, w0_10, rfl⟩ := open38 (hval 0 38 v0 rfl rfl) h0
  clear hA0 hval0
  refine (walk a0_0 a0_1 a0_2 a0_3 a0_4 a0_5 a0_6 a0_7 a0_8 a0_9 len0_9 cap0_9 z0_9 a0_10 len0_10 cap0_10 z0_10 W w0_0 w0_1 w0_4 w0_5 w0_6 w0_7 w0_8 w0_9 w0_10).mono fun e W' ⟨he, bel⟩ => ?_
  subst he
  exact ⟨_, rfl, _, _, _, [], _, [], hW', trodAll_mk1 (shut_bool Try.underlying4 _), (trodAll_cons_mk (Below.trod laidOut (by kernel_rfl) (of_decide_eq_true (by kernel_rfl)) k0 bel lt0) trodAll_mk0), rfl, bel.frame _, fun h => by cases h⟩

theorem over : Rows.recvBodyRow.holds Try.pinned (OpenSpec.ofChange Rows.recvBodySpec) :=
  OpenClaim.holds_of_wide 5 Try.f5 rfl rfl rfl rfl rfl rfl rfl ⟨rfl, rfl, rfl, rfl, rfl⟩ rfl rfl rfl rfl rfl (by kernel_rfl) Try.func5 (by kernel_rfl)
    (of_decide_eq_true (by kernel_rfl)) (by unfold Func.isWrapper; first | (rw [if_pos (by decide +kernel)]; kernel_rfl) | (rw [if_neg (by decide +kernel)]; exact ⟨rfl, rfl⟩))
    (fun os started H enc _ => lifted os started H enc)

theorem proved : Rows.RecvBodySaid := over
#print axioms proved
end Go.Proofs.Ytkoamiefombilaa.recvBody
