/- A region that draws its order and whose last operation, which waits for all others (through others too), stores into a block that is there. -/
import Derived.Test.YteodjajjlgekcaaDoorReg3
namespace Go.Proofs.YteodjajjlgekcaaDoor
open Go.RowKit

section
variable {P : Program} {ops : Array Oper} {Q : Exit → Act → World → Prop}

theorem waits_done {D : Nat → Bool} (hc : ∀ (j : Nat) o, ops[j]? = some o → D j = true → ∀ e ∈ o.after, Region.binds .any e = true → D e.on = true) (i : Nat) :
    ∀ (f j : Nat) o, ops[j]? = some o → (∀ e ∈ o.after, Region.binds .any e = true → D e.on = true) → waits ops f j i = true → D i = true := by
  intro f
  induction f with
  | zero => intro j o _ _ h; cases h
  | succ f ih =>
    intro j o ho hd h
    rw [waits, ho] at h
    obtain ⟨k, hk, hej⟩ := Array.any_eq_true.1 h
    obtain ⟨e, he0⟩ : ∃ e, o.after[k] = e := ⟨_, rfl⟩
    have he : e ∈ o.after := by rw [← he0]; exact Array.getElem_mem hk
    rw [he0] at hej
    simp only [Bool.and_eq_true, Bool.or_eq_true, beq_iff_eq] at hej
    obtain ⟨hb, h1⟩ := hej
    have h2 := hd e he hb
    rcases h1 with h1 | h1
    · rw [← h1]; exact h2
    · cases hq : ops[e.on]? with
      | none =>
        cases f with
        | zero => cases h1
        | succ f => rw [waits, hq] at h1; cases h1
      | some o' => exact ih e.on o' hq (fun e' he' hb' => hc e.on o' hq h2 e' he' hb') h1
theorem region_put_end {id : Nat} {a : Act} {w : World} (hm : P.follows .mixedOrders = true)
    (htopo : (List.range ops.size).all (fun i => (ops[i]?).all fun o => o.after.all fun e => !Region.binds .any e || decide (e.on < i)) = true)
    (hdist : (List.range ops.size).all (fun i => (ops[i]?).all fun o => o.dst.all fun k => slotAt ops.toList k 0 == some i) = true)
    (n : Nat) (hn : a.tmps.size = n)
    (hin : ops.all (fun o => o.dst.all fun k => decide (k < n)) = true)
    (V : World) (Phi : Nat → Value → World → Prop)
    (hV : Below V.heap.size V w)
    (m : Nat) (hlast : ops.size = m + 1)
    (hlo : ((List.range m).all fun i => waits ops ops.size m i) = true)
    (hdn : ∀ o, ops[m]? = some o → o.dst = none)
    (hstab : ∀ i v w w', Phi i v w → Below w.heap.size w w' → Phi i v w')
    (hop : ∀ (i : Nat) o u w, i < m → ops[i]? = some o → Below V.heap.size V w → (∀ j, (o.after.any fun e => e.on == j && Region.binds .any e) = true → Phi j (u j) w) →
      (Region.wanted o (yielded ops (putAll u ops.toList 0 a).tmps) = true ∧
        ((∃ v w', (execOp (putAll u ops.toList 0 a).eval o).run P w = .ok (.value v) w' ∧ Phi i v w' ∧ Below w.heap.size w w') ∨
        (∃ f args post, (execOp (putAll u ops.toList 0 a).eval o).run P w = .ok (.enter f args) w ∧ Calls P f args w post ∧ ∀ e w', post e w' → ∃ v, e = .returned v ∧ Phi i v w' ∧ Below w.heap.size w w'))) ∨
      (Region.wanted o (yielded ops (putAll u ops.toList 0 a).tmps) = false ∧ Phi i undef w))
    (hfin : ∀ o u w, ops[m]? = some o → Below V.heap.size V w → (∀ i, i < m → Phi i (u i) w) → Region.wanted o (yielded ops (putAll u ops.toList 0 a).tmps) = true ∧
      ∃ w', (execOp (putAll u ops.toList 0 a).eval o).run P w = .ok .skip w' ∧ Q .normal (putAll u ops.toList 0 a) w') : (Code.region id ops true).wp P Q a w := by
  have ht : ∀ (i : Nat) o, ops[i]? = some o → ∀ e ∈ o.after, Region.binds .any e = true → e.on < i := by
    intro i o ho e he hb
    have hlt : i < ops.size := (Array.getElem?_eq_some_iff.1 ho).1
    have h1 := List.all_eq_true.1 htopo i (by simpa using hlt)
    rw [ho] at h1
    simp only [Option.all_some] at h1
    have h2 := (Array.all_eq_true_iff_forall_mem.1 h1) e he
    simpa [hb] using h2
  have hput := putAll_put (ops := ops) (a := a) hdist n hn hin
  have hini := putAll_ini (ops := ops) (a := a) hdist n hn hin
  refine wp_region_any hm ?_
  refine wpAny_inv ht (fun l a' w => l.size = ops.size ∧ (∀ (j : Nat) o, ops[j]? = some o → l.getD j false = true → ∀ e ∈ o.after, Region.binds .any e = true → l.getD e.on false = true) ∧ (l.getD m false = true → ∀ i, i < ops.size → l.getD i true = true) ∧ if l.getD m false = true then Q .normal a' w else ∃ u, a' = putAll u ops.toList 0 a ∧ Below V.heap.size V w ∧ ∀ i, i < ops.size → l.getD i true = true → Phi i (u i) w) ?_ ?_ _ _ _ _ (by simp) ?_ ⟨by simp, fun j o ho hl => by
      rw [Array.getD_eq_getD_getElem?, Array.getElem?_replicate] at hl
      split at hl <;> exact absurd hl (by simp), fun h => by simp [hlast] at h, ?_⟩
  · rintro i o l a' w ho ⟨hl, hcl, hmall, hinv⟩ _ h0 hd
    have hlt : i < ops.size := (Array.getElem?_eq_some_iff.1 ho).1
    have hnm : l.getD m false = false := by
      cases h : l.getD m false with
      | false => rfl
      | true => rw [hmall h i hlt] at h0; cases h0
    rw [hnm] at hinv
    simp only [Bool.false_eq_true, if_false] at hinv
    obtain ⟨u, rfl, hb, hphi⟩ := hinv
    have hcl2 : (∀ (j : Nat) o, ops[j]? = some o → (l.setIfInBounds i true).getD j false = true → ∀ e ∈ o.after, Region.binds .any e = true → (l.setIfInBounds i true).getD e.on false = true) := by
      intro j o' ho' hj e he hbe
      rw [getD_set l i e.on (by omega) false]
      by_cases hji : j = i
      · subst hji
        rw [ho] at ho'
        obtain rfl := Option.some.inj ho'
        have := hd e he hbe
        split <;> first | rfl | exact this
      · rw [getD_set l i j (by omega) false, if_neg hji] at hj
        have := hcl j o' ho' hj e he hbe
        split <;> first | rfl | exact this
    unfold wpOp
    simp only [ho]
    by_cases him : i = m
    · subst him
      have hall : ∀ j, j < i → l.getD j true = true := by
        intro j hj
        have h1 := List.all_eq_true.1 hlo j (by simpa using hj)
        have h2 := waits_done (D := fun q => l.getD q false) hcl j _ i o ho hd h1
        have hsz : j < l.size := by omega
        simpa [hsz] using h2
      obtain ⟨hw, w', hr, hq⟩ := hfin o u w ho hb fun j hj => hphi j (by omega) (hall j hj)
      rw [if_pos hw]
      refine .inl (op_skip hr ⟨by simpa using hl, hcl2, fun _ j hj => ?_, ?_⟩)
      · rw [getD_set l i j (by omega) true]
        by_cases hji : j = i
        · rw [if_pos hji]
        · rw [if_neg hji]; exact hall j (by omega)
      · rw [getD_set l i i (by omega) false, if_pos rfl, if_pos rfl, hdn o ho]
        exact hq
    · have him' : i < m := by omega
      have hdep : ∀ j, (o.after.any fun e => e.on == j && Region.binds .any e) = true → Phi j (u j) w := by
        intro j hj
        obtain ⟨k, hk, hej⟩ := Array.any_eq_true.1 hj
        obtain ⟨e, he0⟩ : ∃ e, o.after[k] = e := ⟨_, rfl⟩
        have he : e ∈ o.after := by rw [← he0]; exact Array.getElem_mem hk
        rw [he0] at hej
        simp only [Bool.and_eq_true, beq_iff_eq] at hej
        obtain ⟨rfl, hbe⟩ := hej
        have h1 := ht i o ho e he hbe
        have h2 := hd e he hbe
        have hsz : e.on < l.size := by omega
        exact hphi _ (by omega) (by simpa [hsz] using h2)
      have hstep : ∀ v w', Phi i v w' → Below w.heap.size w w' → (l.setIfInBounds i true).size = ops.size ∧ (∀ (j : Nat) o, ops[j]? = some o → (l.setIfInBounds i true).getD j false = true → ∀ e ∈ o.after, Region.binds .any e = true → (l.setIfInBounds i true).getD e.on false = true) ∧ ((l.setIfInBounds i true).getD m false = true → ∀ j, j < ops.size → (l.setIfInBounds i true).getD j true = true) ∧ if (l.setIfInBounds i true).getD m false = true then Q .normal ((putAll u ops.toList 0 a).put o.dst v) w' else ∃ u', (putAll u ops.toList 0 a).put o.dst v = putAll u' ops.toList 0 a ∧ Below V.heap.size V w' ∧ ∀ j, j < ops.size → (l.setIfInBounds i true).getD j true = true → Phi j (u' j) w' := by
        intro v w' hv hbw
        have hm0 : (l.setIfInBounds i true).getD m false = false := by rw [getD_set l i m (by omega) false, if_neg (Ne.symm him), hnm]
        refine ⟨by simpa using hl, hcl2, fun h => (by rw [hm0] at h; cases h), ?_⟩
        rw [hm0]
        simp only [Bool.false_eq_true, if_false]
        refine ⟨_, hput i o u v ho, hb.trans (hbw.mono hb.size), fun j hj hlj => ?_⟩
        by_cases hji : j = i
        · subst hji; rw [if_pos rfl]; exact hv
        · rw [if_neg hji]
          rw [getD_set l i j (by omega) true, if_neg hji] at hlj
          exact hstab _ _ _ _ (hphi j hj hlj) hbw
      rcases hop i o u w him' ho hb hdep with ⟨hw, h⟩ | ⟨hw, h⟩
      · rw [if_pos hw]
        refine .inl ?_
        rcases h with ⟨v, w', hr, hp, hbw⟩ | ⟨f, args, post, hr, hc, hk⟩
        · exact op_run hr (hstep v w' hp hbw)
        · exact op_call hr hc fun e w' he => by
            obtain ⟨v, rfl, hp, hbw⟩ := hk e w' he
            exact ⟨v, rfl, hstep v w' hp hbw⟩
      · rw [if_neg (by rw [hw]; simp)]
        exact hstep undef w h (Below.refl _ _)
  · rintro l a' w ⟨hl, -, -, hinv⟩ hall
    have hml : m < l.size := by omega
    have := hall m (by omega)
    have hm2 : l.getD m false = true := by simpa [hml] using this
    rw [if_pos hm2] at hinv
    exact hinv
  · exact Nat.le_trans (List.length_filter_le _ _) (by simp)
  · rw [if_neg (by simp [hlast])]
    exact ⟨_, hini, hV.drew, fun i hi hl => by simp [hi] at hl⟩
end
end Go.Proofs.YteodjajjlgekcaaDoor
