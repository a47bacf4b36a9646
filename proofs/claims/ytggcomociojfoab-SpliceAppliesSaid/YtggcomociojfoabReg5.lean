/- A region that draws its order and whose last two operations, one behind the other and behind all else, store. -/
import Derived.Test.YtggcomociojfoabReg4
namespace Go.Proofs.Ytggcomociojfoab
open Go.RowKit

section
variable {P : Program} {ops : Array Oper} {Q : Exit → Act → World → Prop}

theorem region_put_end2 {id : Nat} {a : Act} {w : World} (hm : P.follows .mixedOrders = true)
    (htopo : (List.range ops.size).all (fun i => (ops[i]?).all fun o => o.after.all fun e => !Region.binds .any e || decide (e.on < i)) = true)
    (hdist : (List.range ops.size).all (fun i => (ops[i]?).all fun o => o.dst.all fun k => slotAt ops.toList k 0 == some i) = true)
    (n : Nat) (hn : a.tmps.size = n)
    (hin : ops.all (fun o => o.dst.all fun k => decide (k < n)) = true)
    (V : World) (Phi : Nat → Value → World → Prop)
    (hV : Below V.heap.size V w)
    (m : Nat) (hlast : ops.size = m + 2)
    (hlo : ((List.range m).all fun i => waits ops ops.size m i) = true)
    (hlo2 : ((List.range (m + 1)).all fun i => waits ops ops.size (m + 1) i) = true)
    (hdn : ∀ o, ops[m]? = some o → o.dst = none) (hdn2 : ∀ o, ops[m + 1]? = some o → o.dst = none) (S : (Nat → Value) → World → Prop)
    (al : Nat → Bool) (hal : ∀ (i : Nat) o (u : Nat → Value) w, i < m → al i = true → ops[i]? = some o → ∃ w', (execOp (putAll u ops.toList 0 a).eval o).run P w = .ok (.value (.pointer (some ⟨w.heap.size, 0, none⟩))) w') (hptr : ∀ i v w, al i = true → Phi i v w → ∃ g, v = .pointer (some ⟨g, 0, none⟩) ∧ g < w.heap.size)
    (hstab : ∀ i v w w', Phi i v w → Below w.heap.size w w' → Phi i v w')
    (hop : ∀ (i : Nat) o u w, i < m → ops[i]? = some o → Below V.heap.size V w → (∀ j, (o.after.any fun e => e.on == j && Region.binds .any e) = true → Phi j (u j) w) →
      (Region.wanted o (yielded ops (putAll u ops.toList 0 a).tmps) = true ∧
        ((∃ v w', (execOp (putAll u ops.toList 0 a).eval o).run P w = .ok (.value v) w' ∧ Phi i v w' ∧ Below w.heap.size w w') ∨
        (∃ f args post, (execOp (putAll u ops.toList 0 a).eval o).run P w = .ok (.enter f args) w ∧ Calls P f args w post ∧ ∀ e w', post e w' → ∃ v, e = .returned v ∧ Phi i v w' ∧ Below w.heap.size w w'))) ∨
      (Region.wanted o (yielded ops (putAll u ops.toList 0 a).tmps) = false ∧ Phi i undef w))
    (hfin : ∀ o u w, ops[m]? = some o → Below V.heap.size V w → (∀ i, i < m → Phi i (u i) w) → (∀ i1 j1, i1 < m → j1 < m → al i1 = true → al j1 = true → i1 ≠ j1 → u i1 ≠ u j1) → Region.wanted o (yielded ops (putAll u ops.toList 0 a).tmps) = true ∧
      ∃ w', (execOp (putAll u ops.toList 0 a).eval o).run P w = .ok .skip w' ∧ S u w')
    (hfin2 : ∀ o u w, ops[m + 1]? = some o → S u w → Region.wanted o (yielded ops (putAll u ops.toList 0 a).tmps) = true ∧
      ∃ w', (execOp (putAll u ops.toList 0 a).eval o).run P w = .ok .skip w' ∧ Q .normal (putAll u ops.toList 0 a) w') : (Code.region id ops true).wp P Q a w := by
  have ht : ∀ (i : Nat) o, ops[i]? = some o → ∀ e ∈ o.after, Region.binds .any e = true → e.on < i := by
    intro i o ho e he hb
    have hlt : i < ops.size := (Array.getElem?_eq_some_iff.1 ho).1
    have h1 := List.all_eq_true.1 htopo i (by simpa using hlt)
    rw [ho] at h1
    simp only [Option.all_some] at h1
    have h2 := (Array.all_eq_true_iff_forall_mem.1 h1) e he
    simpa [hb] using h2
  have hput := putAll_put (ops := ops) (a := a) hdist n hn hin
  have hini := putAll_ini (ops := ops) (a := a) hdist n hn hin
  refine wp_region_any hm ?_
  refine wpAny_inv ht (fun l a' w => l.size = ops.size ∧ (∀ (j : Nat) o, ops[j]? = some o → l.getD j false = true → ∀ e ∈ o.after, Region.binds .any e = true → l.getD e.on false = true) ∧ ((l.getD m false = true → ∀ i, i < m → l.getD i true = true) ∧ (l.getD (m + 1) false = true → ∀ i, i < ops.size → l.getD i true = true)) ∧ if l.getD (m + 1) false = true then Q .normal a' w else if l.getD m false = true then ∃ u, a' = putAll u ops.toList 0 a ∧ S u w else ∃ u, a' = putAll u ops.toList 0 a ∧ Below V.heap.size V w ∧ (∀ i, i < m → l.getD i true = true → Phi i (u i) w) ∧ (∀ i1 j1, i1 < m → j1 < m → l.getD i1 true = true → l.getD j1 true = true → al i1 = true → al j1 = true → i1 ≠ j1 → u i1 ≠ u j1)) ?_ ?_ _ _ _ _ (by simp) ?_ ⟨by simp, fun j o ho hl => by
      rw [Array.getD_eq_getD_getElem?, Array.getElem?_replicate] at hl
      split at hl <;> exact absurd hl (by simp), ⟨fun h => by simp [hlast] at h, fun h => by simp [hlast] at h⟩, ?_⟩
  · rintro i o l a' w ho ⟨hl, hcl, hmall, hinv⟩ _ h0 hd
    have hlt : i < ops.size := (Array.getElem?_eq_some_iff.1 ho).1
    have hnm2 : l.getD (m + 1) false = false := by
      cases h : l.getD (m + 1) false with
      | false => rfl
      | true => rw [hmall.2 h i hlt] at h0; cases h0
    rw [hnm2] at hinv
    simp only [Bool.false_eq_true, if_false] at hinv
    have hcl2 : (∀ (j : Nat) o, ops[j]? = some o → (l.setIfInBounds i true).getD j false = true → ∀ e ∈ o.after, Region.binds .any e = true → (l.setIfInBounds i true).getD e.on false = true) := by
      intro j o' ho' hj e he hbe
      rw [getD_set l i e.on (by omega) false]
      by_cases hji : j = i
      · subst hji
        rw [ho] at ho'
        obtain rfl := Option.some.inj ho'
        have := hd e he hbe
        split <;> first | rfl | exact this
      · rw [getD_set l i j (by omega) false, if_neg hji] at hj
        have := hcl j o' ho' hj e he hbe
        split <;> first | rfl | exact this
    unfold wpOp
    simp only [ho]
    by_cases hi2 : i = m + 1
    · subst hi2
      have hall : ∀ j, j < m + 1 → l.getD j true = true := by
        intro j hj
        have h1 := List.all_eq_true.1 hlo2 j (by simpa using hj)
        have h2 := waits_done (D := fun q => l.getD q false) hcl j _ (m + 1) o ho hd h1
        have hsz : j < l.size := by omega
        simpa [hsz] using h2
      have hm1 : l.getD m false = true := by
        have := hall m (by omega)
        have hsz : m < l.size := by omega
        simpa [hsz] using this
      rw [if_pos hm1] at hinv
      obtain ⟨u, rfl, hS⟩ := hinv
      obtain ⟨hw, w', hr, hq⟩ := hfin2 o u w ho hS
      rw [if_pos hw]
      refine .inl (op_skip hr ⟨by simpa using hl, hcl2, ⟨fun _ j hj => ?_, fun _ j hj => ?_⟩, ?_⟩)
      · rw [getD_set l (m + 1) j (by omega) true, if_neg (by omega)]
        exact hall j (by omega)
      · rw [getD_set l (m + 1) j (by omega) true]
        by_cases hji : j = m + 1
        · rw [if_pos hji]
        · rw [if_neg hji]; exact hall j (by omega)
      · rw [getD_set l (m + 1) (m + 1) (by omega) false, if_pos rfl, if_pos rfl, hdn2 o ho]
        exact hq
    · by_cases him : i = m
      · subst him
        have hall : ∀ j, j < i → l.getD j true = true := by
          intro j hj
          have h1 := List.all_eq_true.1 hlo j (by simpa using hj)
          have h2 := waits_done (D := fun q => l.getD q false) hcl j _ i o ho hd h1
          have hsz : j < l.size := by omega
          simpa [hsz] using h2
        have hnm : l.getD i false = false := by
          have hsz : i < l.size := by omega
          simp [hsz] at h0 ⊢
          exact h0
        rw [if_neg (by rw [hnm]; simp)] at hinv
        obtain ⟨u, rfl, hb, hphi, hsep⟩ := hinv
        obtain ⟨hw, w', hr, hq⟩ := hfin o u w ho hb (fun j hj => hphi j (by omega) (hall j hj)) (fun i1 j1 h1 h2 a1 a2 hne => hsep i1 j1 h1 h2 (hall i1 h1) (hall j1 h2) a1 a2 hne)
        rw [if_pos hw]
        refine .inl (op_skip hr ⟨by simpa using hl, hcl2, ⟨fun _ j hj => ?_, fun h => ?_⟩, ?_⟩)
        · rw [getD_set l i j (by omega) true, if_neg (by omega)]
          exact hall j hj
        · rw [getD_set l i (i + 1) (by omega) false, if_neg (by omega), hnm2] at h
          cases h
        · have e1 : (l.setIfInBounds i true).getD (i + 1) false = false := by rw [getD_set l i (i + 1) (by omega) false, if_neg (by omega), hnm2]
          have e2 : (l.setIfInBounds i true).getD i false = true := by rw [getD_set l i i (by omega) false, if_pos rfl]
          rw [e1, e2, hdn o ho]
          simp only [Bool.false_eq_true, if_false, if_true]
          exact ⟨u, rfl, hq⟩
      · have hnm : l.getD m false = false := by
          cases h : l.getD m false with
          | false => rfl
          | true => rw [hmall.1 h i (by omega)] at h0; cases h0
        rw [hnm] at hinv
        simp only [Bool.false_eq_true, if_false] at hinv
        obtain ⟨u, rfl, hb, hphi, hsep⟩ := hinv
        have him' : i < m := by omega
        have hdep : ∀ j, (o.after.any fun e => e.on == j && Region.binds .any e) = true → Phi j (u j) w := by
          intro j hj
          obtain ⟨k, hk, hej⟩ := Array.any_eq_true.1 hj
          obtain ⟨e, he0⟩ : ∃ e, o.after[k] = e := ⟨_, rfl⟩
          have he : e ∈ o.after := by rw [← he0]; exact Array.getElem_mem hk
          rw [he0] at hej
          simp only [Bool.and_eq_true, beq_iff_eq] at hej
          obtain ⟨rfl, hbe⟩ := hej
          have h1 := ht i o ho e he hbe
          have h2 := hd e he hbe
          have hsz : e.on < l.size := by omega
          exact hphi _ (by omega) (by simpa [hsz] using h2)
        have hstep : ∀ v w', Phi i v w' → Below w.heap.size w w' → (al i = true → v = .pointer (some ⟨w.heap.size, 0, none⟩)) → (l.setIfInBounds i true).size = ops.size ∧ (∀ (j : Nat) o, ops[j]? = some o → (l.setIfInBounds i true).getD j false = true → ∀ e ∈ o.after, Region.binds .any e = true → (l.setIfInBounds i true).getD e.on false = true) ∧ (((l.setIfInBounds i true).getD m false = true → ∀ j, j < m → (l.setIfInBounds i true).getD j true = true) ∧ ((l.setIfInBounds i true).getD (m + 1) false = true → ∀ j, j < ops.size → (l.setIfInBounds i true).getD j true = true)) ∧ if (l.setIfInBounds i true).getD (m + 1) false = true then Q .normal ((putAll u ops.toList 0 a).put o.dst v) w' else if (l.setIfInBounds i true).getD m false = true then ∃ u', (putAll u ops.toList 0 a).put o.dst v = putAll u' ops.toList 0 a ∧ S u' w' else ∃ u', (putAll u ops.toList 0 a).put o.dst v = putAll u' ops.toList 0 a ∧ Below V.heap.size V w' ∧ (∀ j, j < m → (l.setIfInBounds i true).getD j true = true → Phi j (u' j) w') ∧ (∀ i1 j1, i1 < m → j1 < m → (l.setIfInBounds i true).getD i1 true = true → (l.setIfInBounds i true).getD j1 true = true → al i1 = true → al j1 = true → i1 ≠ j1 → u' i1 ≠ u' j1) := by
          intro v w' hv hbw hvp
          have hm0 : (l.setIfInBounds i true).getD m false = false := by rw [getD_set l i m (by omega) false, if_neg (Ne.symm him), hnm]
          have hm2 : (l.setIfInBounds i true).getD (m + 1) false = false := by rw [getD_set l i (m + 1) (by omega) false, if_neg (by omega), hnm2]
          refine ⟨by simpa using hl, hcl2, ⟨fun h => (by rw [hm0] at h; cases h), fun h => (by rw [hm2] at h; cases h)⟩, ?_⟩
          rw [hm2, hm0]
          simp only [Bool.false_eq_true, if_false]
          refine ⟨_, hput i o u v ho, hb.trans (hbw.mono hb.size), fun j hj hlj => ?_, fun i1 j1 h1 h2 l1 l2 a1 a2 hne => ?_⟩
          · by_cases hji : j = i
            · subst hji; rw [if_pos rfl]; exact hv
            · rw [if_neg hji]
              rw [getD_set l i j (by omega) true, if_neg hji] at hlj
              exact hstab _ _ _ _ (hphi j hj hlj) hbw
          · by_cases e1 : i1 = i
            · have e2 : j1 ≠ i := by omega
              rw [if_pos e1, if_neg e2]
              rw [getD_set l i j1 (by omega) true, if_neg e2] at l2
              obtain ⟨g, hg, hlt2⟩ := hptr j1 (u j1) w a2 (hphi j1 h2 l2)
              rw [hvp (by rw [← e1]; exact a1), hg]
              intro h
              injection h with h
              injection h with h
              injection h with h
              omega
            · rw [if_neg e1]
              rw [getD_set l i i1 (by omega) true, if_neg e1] at l1
              by_cases e2 : j1 = i
              · rw [if_pos e2]
                obtain ⟨g, hg, hlt2⟩ := hptr i1 (u i1) w a1 (hphi i1 h1 l1)
                rw [hvp (by rw [← e2]; exact a2), hg]
                intro h
                injection h with h
                injection h with h
                injection h with h
                omega
              · rw [if_neg e2]
                rw [getD_set l i j1 (by omega) true, if_neg e2] at l2
                exact hsep i1 j1 h1 h2 l1 l2 a1 a2 hne
        rcases hop i o u w him' ho hb hdep with ⟨hw, h⟩ | ⟨hw, h⟩
        · rw [if_pos hw]
          refine .inl ?_
          rcases h with ⟨v, w', hr, hp, hbw⟩ | ⟨f, args, post, hr, hc, hk⟩
          · exact op_run hr (hstep v w' hp hbw fun ha => by
                obtain ⟨w2, h2⟩ := hal i o u w him' ha ho
                rw [hr] at h2
                injection h2 with h3
                injection h3)
          · exact op_call hr hc fun e w' he => by
              obtain ⟨v, rfl, hp, hbw⟩ := hk e w' he
              exact ⟨v, rfl, hstep v w' hp hbw fun ha => by
                  obtain ⟨w2, h2⟩ := hal i o u w him' ha ho
                  rw [hr] at h2
                  cases h2⟩
        · rw [if_neg (by rw [hw]; simp)]
          exact hstep undef w h (Below.refl _ _) fun ha => by
            obtain ⟨g, hg, -⟩ := hptr i undef w ha h
            cases hg
  · rintro l a' w ⟨hl, -, -, hinv⟩ hall
    have hml : m + 1 < l.size := by omega
    have := hall (m + 1) (by omega)
    have hm2 : l.getD (m + 1) false = true := by simpa [hml] using this
    rw [if_pos hm2] at hinv
    exact hinv
  · exact Nat.le_trans (List.length_filter_le _ _) (by simp)
  · rw [if_neg (by simp [hlast]), if_neg (by simp [hlast])]
    exact ⟨_, hini, hV.drew, (fun i hi hl => by simp [show i < ops.size by omega] at hl), fun i1 j1 h1 h2 l1 => by simp [show i1 < ops.size by omega] at l1⟩
end
end Go.Proofs.Ytggcomociojfoab
