/- A region that draws its order and whose last operations, each of which waits for all before it, store into blocks that are there. -/
import Derived.Test.YteodjajjlgekcaaDoorReg4
namespace Go.Proofs.YteodjajjlgekcaaDoor
open Go.RowKit

section
variable {P : Program} {ops : Array Oper} {Q : Exit → Act → World → Prop}

theorem region_put_tail {id : Nat} {a : Act} {w : World} (hm : P.follows .mixedOrders = true)
    (htopo : (List.range ops.size).all (fun i => (ops[i]?).all fun o => o.after.all fun e => !Region.binds .any e || decide (e.on < i)) = true)
    (hdist : (List.range ops.size).all (fun i => (ops[i]?).all fun o => o.dst.all fun k => slotAt ops.toList k 0 == some i) = true)
    (n : Nat) (hn : a.tmps.size = n)
    (hin : ops.all (fun o => o.dst.all fun k => decide (k < n)) = true)
    (V : World) (Phi : Nat → Value → World → Prop)
    (hV : Below V.heap.size V w)
    (m t : Nat) (ht0 : 0 < t) (hlast : ops.size = m + t)
    (late : Nat → Bool) (hlate : ∀ i, m ≤ i → late i = false)
    (hlo : ((List.range t).all fun q => (List.range (m + q)).all fun i => late i || ((ops[m + q]?).all fun o => o.after.any fun e => e.on == i && Region.binds .any e) || waits ops ops.size (m + q) i) = true)
    (S : Nat → (Nat → Value) → World → Prop)
    (hstab : ∀ i v w w', Phi i v w → Below w.heap.size w w' → Phi i v w')
    (hop : ∀ (i : Nat) o u w, i < m → ops[i]? = some o → Below V.heap.size V w → (∀ j, (o.after.any fun e => e.on == j && Region.binds .any e) = true → Phi j (u j) w) →
      (∀ j k v, waits ops ops.size j i = true → (ops[j]?).bind (·.dst) = some k → a.tmps[k]? = some v → u j = v) →
      (Region.wanted o (yielded ops (putAll u ops.toList 0 a).tmps) = true ∧
        ((∃ v w', (execOp (putAll u ops.toList 0 a).eval o).run P w = .ok (.value v) w' ∧ Phi i v w' ∧ Below w.heap.size w w') ∨
        (∃ f args post, (execOp (putAll u ops.toList 0 a).eval o).run P w = .ok (.enter f args) w ∧ Calls P f args w post ∧ ∀ e w', post e w' → ∃ v, e = .returned v ∧ Phi i v w' ∧ Below w.heap.size w w'))) ∨
      (Region.wanted o (yielded ops (putAll u ops.toList 0 a).tmps) = false ∧ Phi i undef w))
    (hlw : ∀ i v w w', late i = true → Phi i v w → Phi i v w')
    (hlop : ∀ i o u w, late i = true → ops[i]? = some o → (∀ j, (o.after.any fun e => e.on == j && Region.binds .any e) = true → ∃ w0, Phi j (u j) w0) →
      Region.wanted o (yielded ops (putAll u ops.toList 0 a).tmps) = true ∧ ∃ v, (execOp (putAll u ops.toList 0 a).eval o).run P w = .ok (.value v) w ∧ Phi i v w)
    (hSl : ∀ k i u v w, late i = true → S k u w → S k (fun j => if j = i then v else u j) w)
    (hbeg : ∀ u w, Below V.heap.size V w → (∀ i, i < m → late i = false → Phi i (u i) w) → S 0 u w)
    (hfin : ∀ q o u w, q < t → ops[m + q]? = some o → S q u w → (∀ j, (o.after.any fun e => e.on == j && Region.binds .any e) = true → late j = true → Phi j (u j) w) → Region.wanted o (yielded ops (putAll u ops.toList 0 a).tmps) = true ∧
      ((∃ w', (execOp (putAll u ops.toList 0 a).eval o).run P w = .ok .skip w' ∧ o.dst = none ∧ S (q + 1) u w') ∨
        (∃ v w', (execOp (putAll u ops.toList 0 a).eval o).run P w = .ok (.value v) w' ∧ S (q + 1) (fun j => if j = m + q then v else u j) w')))
    (hend : ∀ u w, S t u w → (∀ i, i < m → late i = true → Phi i (u i) w) → Q .normal (putAll u ops.toList 0 a) w) : (Code.region id ops true).wp P Q a w := by
  have ht : ∀ (i : Nat) o, ops[i]? = some o → ∀ e ∈ o.after, Region.binds .any e = true → e.on < i := by
    intro i o ho e he hb
    have hlt : i < ops.size := (Array.getElem?_eq_some_iff.1 ho).1
    have h1 := List.all_eq_true.1 htopo i (by simpa using hlt)
    rw [ho] at h1
    simp only [Option.all_some] at h1
    have h2 := (Array.all_eq_true_iff_forall_mem.1 h1) e he
    simpa [hb] using h2
  have hput := putAll_put (ops := ops) (a := a) hdist n hn hin
  obtain ⟨u0, hini, hu0k⟩ : ∃ u0, a = putAll u0 ops.toList 0 a ∧ ∀ j k v, (ops[j]?).bind (·.dst) = some k → a.tmps[k]? = some v → u0 j = v :=
    ⟨_, putAll_ini (ops := ops) (a := a) hdist n hn hin, fun j k v h1 h2 => by
      simp only [h1]
      rw [Array.getD_eq_getD_getElem?, h2]
      rfl⟩
  refine wp_region_any hm ?_
  refine wpAny_inv ht (fun l a' w => l.size = ops.size ∧ (∀ (j : Nat) o, ops[j]? = some o → l.getD j false = true → ∀ e ∈ o.after, Region.binds .any e = true → l.getD e.on false = true) ∧ ∃ u k, a' = putAll u ops.toList 0 a ∧ k ≤ t ∧ (∀ j, m ≤ j → j < m + t → (l.getD j false = true ↔ j < m + k)) ∧ (0 < k → ∀ j, j < m → late j = false → l.getD j false = true) ∧ (∀ j, l.getD j false = false → u j = u0 j) ∧ (k = 0 → Below V.heap.size V w ∧ ∀ i, i < m → l.getD i true = true → Phi i (u i) w) ∧ (0 < k → S k u w ∧ ∀ i, i < m → l.getD i false = true → ∃ w0, Phi i (u i) w0)) ?_ ?_ _ _ _ _ (by simp) ?_ ?_
  · rintro i o l a' w ho ⟨hl, hcl, u, k, rfl, hk, htl, hpre, huo, hz, hS⟩ _ h0 hd
    have hlt : i < ops.size := (Array.getElem?_eq_some_iff.1 ho).1
    have hi0 : l.getD i false = false := by
      rw [Array.getD_eq_getD_getElem?] at h0 ⊢
      rw [Array.getElem?_eq_getElem (by omega)] at h0 ⊢
      exact h0
    have hcl2 : (∀ (j : Nat) o, ops[j]? = some o → (l.setIfInBounds i true).getD j false = true → ∀ e ∈ o.after, Region.binds .any e = true → (l.setIfInBounds i true).getD e.on false = true) := by
      intro j o' ho' hj e he hbe
      rw [getD_set l i e.on (by omega) false]
      by_cases hji : j = i
      · subst hji
        rw [ho] at ho'
        obtain rfl := Option.some.inj ho'
        have := hd e he hbe
        split <;> first | rfl | exact this
      · rw [getD_set l i j (by omega) false, if_neg hji] at hj
        have := hcl j o' ho' hj e he hbe
        split <;> first | rfl | exact this
    unfold wpOp
    simp only [ho]
    by_cases him : i < m
    · by_cases hk0 : 0 < k
      · have hli : late i = true := by
          cases h : late i with
          | true => rfl
          | false => rw [hpre hk0 i him h] at hi0; cases hi0
        obtain ⟨hSk, hex⟩ := hS hk0
        obtain ⟨hw, v, hr, hv⟩ := hlop i o u w hli ho fun j hj => by
          obtain ⟨k', hk', hej⟩ := Array.any_eq_true.1 hj
          obtain ⟨e, he0⟩ : ∃ e, o.after[k'] = e := ⟨_, rfl⟩
          have he : e ∈ o.after := by rw [← he0]; exact Array.getElem_mem hk'
          rw [he0] at hej
          simp only [Bool.and_eq_true, beq_iff_eq] at hej
          obtain ⟨rfl, hbe⟩ := hej
          have h1 := ht i o ho e he hbe
          exact hex _ (by omega) (hd e he hbe)
        rw [if_pos hw]
        refine .inl (op_run hr ⟨by simpa using hl, hcl2, _, k, hput i o u v ho, hk, fun j hj1 hj2 => ?_, fun _ j hj hlj => ?_, fun j hlj => ?_, fun h => absurd h (by omega), fun _ => ⟨hSl k i u v w hli hSk, fun j hj hlj => ?_⟩⟩)
        · rw [getD_set l i j (by omega) false, if_neg (by omega)]
          exact htl j hj1 hj2
        · rw [getD_set l i j (by omega) false]
          split
          · rfl
          · exact hpre hk0 j hj hlj
        · rw [getD_set l i j (by omega) false] at hlj
          by_cases hji : j = i
          · rw [if_pos hji] at hlj; cases hlj
          · rw [if_neg hji] at hlj ⊢
            exact huo j hlj
        · by_cases hji : j = i
          · subst hji; rw [if_pos rfl]; exact ⟨w, hv⟩
          · rw [if_neg hji]
            rw [getD_set l i j (by omega) false, if_neg hji] at hlj
            exact hex j hj hlj
      have hk0 : k = 0 := by omega
      subst hk0
      obtain ⟨hb, hphi⟩ := hz rfl
      have hdep : ∀ j, (o.after.any fun e => e.on == j && Region.binds .any e) = true → Phi j (u j) w := by
        intro j hj
        obtain ⟨k, hk, hej⟩ := Array.any_eq_true.1 hj
        obtain ⟨e, he0⟩ : ∃ e, o.after[k] = e := ⟨_, rfl⟩
        have he : e ∈ o.after := by rw [← he0]; exact Array.getElem_mem hk
        rw [he0] at hej
        simp only [Bool.and_eq_true, beq_iff_eq] at hej
        obtain ⟨rfl, hbe⟩ := hej
        have h1 := ht i o ho e he hbe
        have h2 := hd e he hbe
        have hsz : e.on < l.size := by omega
        exact hphi _ (by omega) (by simpa [hsz] using h2)
      have hold : ∀ j k v, waits ops ops.size j i = true → (ops[j]?).bind (·.dst) = some k → a.tmps[k]? = some v → u j = v := by
        intro j k v h1 h2 h3
        rw [huo j (waits_not (D := fun j => l.getD j false) hi0 hcl _ _ h1)]
        exact hu0k j k v h2 h3
      have hstep : ∀ v w', Phi i v w' → Below w.heap.size w w' → (l.setIfInBounds i true).size = ops.size ∧ (∀ (j : Nat) o, ops[j]? = some o → (l.setIfInBounds i true).getD j false = true → ∀ e ∈ o.after, Region.binds .any e = true → (l.setIfInBounds i true).getD e.on false = true) ∧ ∃ u' k, (putAll u ops.toList 0 a).put o.dst v = putAll u' ops.toList 0 a ∧ k ≤ t ∧ (∀ j, m ≤ j → j < m + t → ((l.setIfInBounds i true).getD j false = true ↔ j < m + k)) ∧ (0 < k → ∀ j, j < m → late j = false → (l.setIfInBounds i true).getD j false = true) ∧ (∀ j, (l.setIfInBounds i true).getD j false = false → u' j = u0 j) ∧ (k = 0 → Below V.heap.size V w' ∧ ∀ i', i' < m → (l.setIfInBounds i true).getD i' true = true → Phi i' (u' i') w') ∧ (0 < k → S k u' w' ∧ ∀ i', i' < m → (l.setIfInBounds i true).getD i' false = true → ∃ w0, Phi i' (u' i') w0) := by
        intro v w' hv hbw
        refine ⟨by simpa using hl, hcl2, _, 0, hput i o u v ho, by omega, fun j hj1 hj2 => ?_, fun h => absurd h (by omega), fun j hlj => ?_, fun _ => ⟨hb.trans (hbw.mono hb.size), fun j hj hlj => ?_⟩, fun h => absurd h (by omega)⟩
        · rw [getD_set l i j (by omega) false, if_neg (by omega)]
          exact htl j hj1 hj2
        · rw [getD_set l i j (by omega) false] at hlj
          by_cases hji : j = i
          · rw [if_pos hji] at hlj; cases hlj
          · rw [if_neg hji] at hlj ⊢
            exact huo j hlj
        · by_cases hji : j = i
          · subst hji; rw [if_pos rfl]; exact hv
          · rw [if_neg hji]
            rw [getD_set l i j (by omega) true, if_neg hji] at hlj
            exact hstab _ _ _ _ (hphi j hj hlj) hbw
      rcases hop i o u w him ho hb hdep hold with ⟨hw, h⟩ | ⟨hw, h⟩
      · rw [if_pos hw]
        refine .inl ?_
        rcases h with ⟨v, w', hr, hp, hbw⟩ | ⟨f, args, post, hr, hc, hk⟩
        · exact op_run hr (hstep v w' hp hbw)
        · exact op_call hr hc fun e w' he => by
            obtain ⟨v, rfl, hp, hbw⟩ := hk e w' he
            exact ⟨v, rfl, hstep v w' hp hbw⟩
      · rw [if_neg (by rw [hw]; simp)]
        exact hstep undef w h (Below.refl _ _)
    · have hall : ∀ j, j < i → late j = false → l.getD j false = true := by
        intro j hj hlj
        have h1 := List.all_eq_true.1 hlo (i - m) (by simp; omega)
        rw [show m + (i - m) = i by omega] at h1
        have h2 := List.all_eq_true.1 h1 j (by simpa using hj)
        rw [hlj, Bool.false_or] at h2
        rcases Bool.or_eq_true _ _ ▸ h2 with h3 | h3
        · rw [ho] at h3
          simp only [Option.all_some] at h3
          obtain ⟨k, hk, hej⟩ := Array.any_eq_true.1 h3
          obtain ⟨e, he0⟩ : ∃ e, o.after[k] = e := ⟨_, rfl⟩
          have he : e ∈ o.after := by rw [← he0]; exact Array.getElem_mem hk
          rw [he0] at hej
          simp only [Bool.and_eq_true, beq_iff_eq] at hej
          obtain ⟨rfl, hbe⟩ := hej
          exact hd e he hbe
        · exact waits_done (D := fun q => l.getD q false) hcl j _ i o ho hd h3
      have hik : i = m + k := by
        have h1 : ¬ i < m + k := fun h => by rw [(htl i (by omega) (by omega)).2 h] at hi0; cases hi0
        by_cases h2 : i = m + k
        · exact h2
        · have := (htl (m + k) (by omega) (by omega)).1 (hall _ (by omega) (hlate _ (by omega)))
          omega
      subst hik
      have hSk : S k u w ∧ ∀ i, i < m → l.getD i false = true → ∃ w0, Phi i (u i) w0 := by
        by_cases h : 0 < k
        · exact hS h
        · obtain ⟨hb, hphi⟩ := hz (by omega)
          obtain rfl : k = 0 := by omega
          have hdf : ∀ j, j < m → l.getD j false = true → Phi j (u j) w := fun j hj h2 => hphi j hj (by
            have hsz : j < l.size := by omega
            simpa [hsz] using h2)
          exact ⟨hbeg u w hb fun j hj hlj => hdf j hj (hall j (by omega) hlj), fun j hj h2 => ⟨w, hdf j hj h2⟩⟩
      obtain ⟨hSk, hex⟩ := hSk
      have hdl : ∀ j, (o.after.any fun e => e.on == j && Region.binds .any e) = true → late j = true → Phi j (u j) w := by
        intro j hj hlj
        obtain ⟨k', hk', hej⟩ := Array.any_eq_true.1 hj
        obtain ⟨e, he0⟩ : ∃ e, o.after[k'] = e := ⟨_, rfl⟩
        have he : e ∈ o.after := by rw [← he0]; exact Array.getElem_mem hk'
        rw [he0] at hej
        simp only [Bool.and_eq_true, beq_iff_eq] at hej
        obtain ⟨rfl, hbe⟩ := hej
        have hjm : e.on < m := by
          by_cases h : e.on < m
          · exact h
          · rw [hlate _ (by omega)] at hlj; cases hlj
        obtain ⟨w0, h0⟩ := hex _ hjm (hd e he hbe)
        exact hlw _ _ w0 w hlj h0
      obtain ⟨hw, hr⟩ := hfin k o u w (by omega) ho hSk hdl
      rw [if_pos hw]
      have hset : ∀ j, j < m + k → late j = false → (l.setIfInBounds (m + k) true).getD j false = true := fun j hj hlj => by
        rw [getD_set l (m + k) j (by omega) false, if_neg (by omega)]; exact hall j hj hlj
      have hex2 : ∀ j, j < m → (l.setIfInBounds (m + k) true).getD j false = true → ∃ w0, Phi j (u j) w0 := fun j hj h => by
        rw [getD_set l (m + k) j (by omega) false, if_neg (by omega)] at h; exact hex j hj h
      have htl2 : ∀ j, m ≤ j → j < m + t → ((l.setIfInBounds (m + k) true).getD j false = true ↔ j < m + (k + 1)) := by
        intro j hj1 hj2
        rw [getD_set l (m + k) j (by omega) false]
        by_cases hji : j = m + k
        · rw [if_pos hji]; simp; omega
        · rw [if_neg hji, htl j hj1 hj2]; omega
      refine .inl ?_
      rcases hr with ⟨w', hr, hdn, hq⟩ | ⟨v, w', hr, hq⟩
      · refine op_skip hr ⟨by simpa using hl, hcl2, u, k + 1, ?_, by omega, htl2, fun _ j hj hlj => hset j (by omega) hlj, fun j hlj => ?_, fun h => absurd h (by omega), fun _ => ⟨hq, hex2⟩⟩
        · rw [hdn]; rfl
        · rw [getD_set l (m + k) j (by omega) false] at hlj
          by_cases hji : j = m + k
          · rw [if_pos hji] at hlj; cases hlj
          · rw [if_neg hji] at hlj; exact huo j hlj
      · refine op_run hr ⟨by simpa using hl, hcl2, _, k + 1, hput (m + k) o u v ho, by omega, htl2, fun _ j hj hlj => hset j (by omega) hlj, fun j hlj => ?_, fun h => absurd h (by omega), fun _ => ⟨hq, fun j hj h => by rw [if_neg (by omega)]; exact hex2 j hj h⟩⟩
        rw [getD_set l (m + k) j (by omega) false] at hlj
        by_cases hji : j = m + k
        · rw [if_pos hji] at hlj; cases hlj
        · rw [if_neg hji] at hlj ⊢; exact huo j hlj
  · rintro l a' w ⟨hl, -, u, k, rfl, hk, htl, -, -, -, hS⟩ hall
    have hkt : k = t := by
      have h1 := hall (m + t - 1) (by omega)
      have hml : m + t - 1 < l.size := by omega
      have h2 := (htl (m + t - 1) (by omega) (by omega)).1 (by simpa [hml] using h1)
      omega
    subst hkt
    obtain ⟨hSt, hex⟩ := hS ht0
    exact hend u w hSt fun i hi hli => by
      have h1 := hall i (by omega)
      have hml : i < l.size := by omega
      obtain ⟨w0, h0⟩ := hex i hi (by simpa [hml] using h1)
      exact hlw _ _ w0 w hli h0
  · exact Nat.le_trans (List.length_filter_le _ _) (by simp)
  · refine ⟨by simp, fun j o ho hl => by
      rw [Array.getD_eq_getD_getElem?, Array.getElem?_replicate] at hl
      split at hl <;> exact absurd hl (by simp), u0, 0, hini, by omega, fun j h1 h2 => ?_, fun h => absurd h (by omega), fun _ _ => rfl, fun _ => ⟨hV.drew, fun i hi hl => ?_⟩, fun h => absurd h (by omega)⟩
    · rw [Array.getD_eq_getD_getElem?, Array.getElem?_replicate]
      split <;> simp <;> omega
    · have hi' : i < ops.size := by omega
      simp [hi'] at hl
end
end Go.Proofs.YteodjajjlgekcaaDoor
