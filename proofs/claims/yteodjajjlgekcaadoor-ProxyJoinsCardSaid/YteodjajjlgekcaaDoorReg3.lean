/- A region that draws its order, some slot of which is read by an early operation and written by a later one. -/
import Derived.Test.YteodjajjlgekcaaDoorReg
namespace Go.Proofs.YteodjajjlgekcaaDoor
open Go.RowKit

/-- Does operation j wait for operation i, through others too? -/
def waits (ops : Array Oper) : Nat → Nat → Nat → Bool
  | 0, _, _ => false
  | f + 1, j, i => match ops[j]? with
    | none => false
    | some o => o.after.any fun e => Region.binds .any e && (e.on == i || waits ops f e.on i)
section
variable {P : Program} {ops : Array Oper} {Q : Exit → Act → World → Prop}
theorem waits_not {D : Nat → Bool} {i : Nat} (hi : D i = false) (hc : ∀ (j : Nat) o, ops[j]? = some o → D j = true → ∀ e ∈ o.after, Region.binds .any e = true → D e.on = true) :
    ∀ (f j : Nat), waits ops f j i = true → D j = false := by
  intro f
  induction f with
  | zero => intro j h; cases h
  | succ f ih =>
    intro j h
    rw [waits] at h
    cases ho : ops[j]? with
    | none => rw [ho] at h; cases h
    | some o =>
      rw [ho] at h
      obtain ⟨k, hk, hej⟩ := Array.any_eq_true.1 h
      obtain ⟨e, he0⟩ : ∃ e, o.after[k] = e := ⟨_, rfl⟩
      have he : e ∈ o.after := by rw [← he0]; exact Array.getElem_mem hk
      rw [he0] at hej
      simp only [Bool.and_eq_true, Bool.or_eq_true, beq_iff_eq] at hej
      obtain ⟨hb, h1⟩ := hej
      cases hD : D j with
      | false => rfl
      | true =>
        have h2 := hc j o ho hD e he hb
        rcases h1 with h1 | h1
        · rw [h1, hi] at h2; cases h2
        · rw [ih _ h1] at h2; cases h2

/-- The region, op by op; 'hold': a slot that a later operation writes is as it was. -/
theorem region_putD {id : Nat} {a : Act} {w : World} (hm : P.follows .mixedOrders = true)
    (htopo : (List.range ops.size).all (fun i => (ops[i]?).all fun o => o.after.all fun e => !Region.binds .any e || decide (e.on < i)) = true)
    (hdist : (List.range ops.size).all (fun i => (ops[i]?).all fun o => o.dst.all fun k => slotAt ops.toList k 0 == some i) = true)
    (n : Nat) (hn : a.tmps.size = n)
    (hin : ops.all (fun o => o.dst.all fun k => decide (k < n)) = true)
    (V : World) (Phi : Nat → Value → World → Prop)
    (hV : Below V.heap.size V w)
    (hstab : ∀ i v w w', Phi i v w → Below w.heap.size w w' → Phi i v w')
    (hop : ∀ (i : Nat) o u w, ops[i]? = some o → Below V.heap.size V w → (∀ j, (o.after.any fun e => e.on == j && Region.binds .any e) = true → Phi j (u j) w) →
      (∀ j k v, waits ops ops.size j i = true → (ops[j]?).bind (·.dst) = some k → a.tmps[k]? = some v → u j = v) →
      (Region.wanted o (yielded ops (putAll u ops.toList 0 a).tmps) = true ∧
        ((∃ v w', (execOp (putAll u ops.toList 0 a).eval o).run P w = .ok (.value v) w' ∧ Phi i v w' ∧ Below w.heap.size w w') ∨
        (∃ f args post, (execOp (putAll u ops.toList 0 a).eval o).run P w = .ok (.enter f args) w ∧ Calls P f args w post ∧ ∀ e w', post e w' → ∃ v, e = .returned v ∧ Phi i v w' ∧ Below w.heap.size w w'))) ∨
      (Region.wanted o (yielded ops (putAll u ops.toList 0 a).tmps) = false ∧ Phi i undef w))
    (hend : ∀ u w, Below V.heap.size V w → (∀ i, i < ops.size → Phi i (u i) w) → Q .normal (putAll u ops.toList 0 a) w) : (Code.region id ops true).wp P Q a w := by
  have ht : ∀ (i : Nat) o, ops[i]? = some o → ∀ e ∈ o.after, Region.binds .any e = true → e.on < i := by
    intro i o ho e he hb
    have hlt : i < ops.size := (Array.getElem?_eq_some_iff.1 ho).1
    have h1 := List.all_eq_true.1 htopo i (by simpa using hlt)
    rw [ho] at h1
    simp only [Option.all_some] at h1
    have h2 := (Array.all_eq_true_iff_forall_mem.1 h1) e he
    simpa [hb] using h2
  have hput := putAll_put (ops := ops) (a := a) hdist n hn hin
  obtain ⟨u0, hini, hu0k⟩ : ∃ u0, a = putAll u0 ops.toList 0 a ∧ ∀ j k v, (ops[j]?).bind (·.dst) = some k → a.tmps[k]? = some v → u0 j = v :=
    ⟨_, putAll_ini (ops := ops) (a := a) hdist n hn hin, fun j k v h1 h2 => by
      simp only [h1]
      rw [Array.getD_eq_getD_getElem?, h2]
      rfl⟩
  refine wp_region_any hm ?_
  refine wpAny_inv ht (fun l a' w => l.size = ops.size ∧ (∀ (j : Nat) o, ops[j]? = some o → l.getD j false = true → ∀ e ∈ o.after, Region.binds .any e = true → l.getD e.on false = true) ∧ ∃ u, a' = putAll u ops.toList 0 a ∧ Below V.heap.size V w ∧ (∀ i, i < ops.size → l.getD i true = true → Phi i (u i) w) ∧ ∀ j, l.getD j false = false → u j = u0 j) ?_ ?_ _ _ _ _ (by simp) ?_
    ⟨by simp, fun j o ho hl => by
      rw [Array.getD_eq_getD_getElem?, Array.getElem?_replicate] at hl
      split at hl <;> exact absurd hl (by simp), _, hini, hV.drew, fun i hi hl => by simp [hi] at hl, fun _ _ => rfl⟩
  · rintro i o l a' w ho ⟨hl, hcl, u, rfl, hb, hphi, huo⟩ _ h0 hd
    have hlt : i < ops.size := (Array.getElem?_eq_some_iff.1 ho).1
    have hi0 : l.getD i false = false := by
      rw [Array.getD_eq_getD_getElem?] at h0 ⊢
      rw [Array.getElem?_eq_getElem (by omega)] at h0 ⊢
      exact h0
    have hdep : ∀ j, (o.after.any fun e => e.on == j && Region.binds .any e) = true → Phi j (u j) w := by
      intro j hj
      obtain ⟨k, hk, hej⟩ := Array.any_eq_true.1 hj
      obtain ⟨e, he0⟩ : ∃ e, o.after[k] = e := ⟨_, rfl⟩
      have he : e ∈ o.after := by rw [← he0]; exact Array.getElem_mem hk
      rw [he0] at hej
      simp only [Bool.and_eq_true, beq_iff_eq] at hej
      obtain ⟨rfl, hbe⟩ := hej
      have h1 := ht i o ho e he hbe
      have h2 := hd e he hbe
      have hsz : e.on < l.size := by omega
      exact hphi _ (by omega) (by simpa [hsz] using h2)
    have hold : ∀ j k v, waits ops ops.size j i = true → (ops[j]?).bind (·.dst) = some k → a.tmps[k]? = some v → u j = v := by
      intro j k v h1 h2 h3
      rw [huo j (waits_not (D := fun j => l.getD j false) hi0 hcl _ _ h1)]
      exact hu0k j k v h2 h3
    have hstep : ∀ v w', Phi i v w' → Below w.heap.size w w' → (l.setIfInBounds i true).size = ops.size ∧ (∀ (j : Nat) o, ops[j]? = some o → (l.setIfInBounds i true).getD j false = true → ∀ e ∈ o.after, Region.binds .any e = true → (l.setIfInBounds i true).getD e.on false = true) ∧ ∃ u', (putAll u ops.toList 0 a).put o.dst v = putAll u' ops.toList 0 a ∧ Below V.heap.size V w' ∧ (∀ j, j < ops.size → (l.setIfInBounds i true).getD j true = true → Phi j (u' j) w') ∧ ∀ j, (l.setIfInBounds i true).getD j false = false → u' j = u0 j := by
      intro v w' hv hbw
      refine ⟨by simpa using hl, ?_, _, hput i o u v ho, hb.trans (hbw.mono hb.size), fun j hj hlj => ?_, fun j hlj => ?_⟩
      · intro j o' ho' hj e he hbe
        rw [getD_set l i e.on (by omega) false]
        by_cases hji : j = i
        · subst hji
          rw [ho] at ho'
          obtain rfl := Option.some.inj ho'
          have := hd e he hbe
          split <;> first | rfl | exact this
        · rw [getD_set l i j (by omega) false, if_neg hji] at hj
          have := hcl j o' ho' hj e he hbe
          split <;> first | rfl | exact this
      · by_cases hji : j = i
        · subst hji; rw [if_pos rfl]; exact hv
        · rw [if_neg hji]
          rw [getD_set l i j (by omega) true, if_neg hji] at hlj
          exact hstab _ _ _ _ (hphi j hj hlj) hbw
      · rw [getD_set l i j (by omega) false] at hlj
        by_cases hji : j = i
        · rw [if_pos hji] at hlj; cases hlj
        · rw [if_neg hji] at hlj ⊢
          exact huo j hlj
    unfold wpOp
    simp only [ho]
    rcases hop i o u w ho hb hdep hold with ⟨hw, h⟩ | ⟨hw, h⟩
    · rw [if_pos hw]
      refine .inl ?_
      rcases h with ⟨v, w', hr, hp, hbw⟩ | ⟨f, args, post, hr, hc, hk⟩
      · exact op_run hr (hstep v w' hp hbw)
      · exact op_call hr hc fun e w' he => by
          obtain ⟨v, rfl, hp, hbw⟩ := hk e w' he
          exact ⟨v, rfl, hstep v w' hp hbw⟩
    · rw [if_neg (by rw [hw]; simp)]
      exact hstep undef w h (Below.refl _ _)
  · rintro l a' w ⟨hl, -, u, rfl, hb, hphi, -⟩ hall
    exact hend u w hb fun i hi => hphi i hi (hall i hi)
  · exact Nat.le_trans (List.length_filter_le _ _) (by simp)
end
end Go.Proofs.YteodjajjlgekcaaDoor
