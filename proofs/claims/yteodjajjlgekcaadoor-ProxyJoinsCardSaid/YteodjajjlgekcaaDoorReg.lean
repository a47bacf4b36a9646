/- A region that draws its order, guarded operations among them, by one fact for each operation; the frame is kept as puts of the operations' values. Nothing of the program's own code is named here. -/
import Derived.Test.YteodjajjlgekcaaDoorInv
import Derived.Test.YteodjajjlgekcaaDoorBlk
import Derived.Laws.Rows
namespace Go.Proofs.YteodjajjlgekcaaDoor
open Go.RowKit

theorem op_skip {P : Program} {o : Oper} {a : Act} {w w' : World} {K : Act → World → Prop} {Q : Exit → Act → World → Prop} (h : (execOp a.eval o).run P w = .ok .skip w') (hK : K (a.put o.dst undef) w') : o.wp P a w K Q := by
  unfold Oper.wp
  rw [h]
  exact hK
/-- Which operation writes slot k (the last one, counted from i on). -/
def slotAt : List Oper → Nat → Nat → Option Nat
  | [], _, _ => none
  | o :: os, k, i => match slotAt os k (i + 1) with
    | some j => some j
    | none => if o.dst = some k then some i else none
/-- The frame behind all operations' values. -/
def putAll (u : Nat → Value) : List Oper → Nat → Act → Act
  | [], _, a => a
  | o :: os, i, a => putAll u os (i + 1) (a.put o.dst (u i))

theorem putAll_defers (u : Nat → Value) : ∀ (os : List Oper) (i : Nat) (a : Act), (putAll u os i a).defers = a.defers
  | [], _, _ => rfl
  | o :: os, i, a => by
    rw [putAll, putAll_defers u os (i + 1)]
    unfold Act.put
    cases o.dst <;> rfl
theorem putAll_size (u : Nat → Value) : ∀ (os : List Oper) (i : Nat) (a : Act), (putAll u os i a).tmps.size = a.tmps.size
  | [], _, _ => rfl
  | o :: os, i, a => by
    rw [putAll, putAll_size u os (i + 1)]
    unfold Act.put
    cases o.dst <;> simp
theorem putAll_at (u : Nat → Value) : ∀ (os : List Oper) (i : Nat) (a : Act) (k : Nat), k < a.tmps.size →
    (putAll u os i a).tmps[k]? = match slotAt os k i with
      | some j => some (u j)
      | none => a.tmps[k]?
  | [], _, _, _, _ => rfl
  | o :: os, i, a, k, hk => by
    rw [putAll, putAll_at u os (i + 1) _ k (by unfold Act.put; cases o.dst <;> simpa using hk), slotAt]
    cases h : slotAt os k (i + 1) with
    | some j => rfl
    | none =>
      simp only
      unfold Act.put
      cases hd : o.dst with
      | none => simp
      | some d =>
        by_cases hdk : d = k
        · subst hdk
          simp [hk]
        · simp [hdk]

theorem slotAt_lt' : ∀ (os : List Oper) (i k j : Nat), slotAt os k i = some j → j < i + os.length
  | [], _, _, _, h => by cases h
  | o :: os, i, k, j, h => by
    rw [slotAt] at h
    cases h' : slotAt os k (i + 1) with
    | some q =>
      rw [h'] at h
      simp only [Option.some.injEq] at h
      subst h
      have := slotAt_lt' os (i + 1) k q h'
      simp only [List.length_cons]
      omega
    | none =>
      rw [h'] at h
      simp only at h
      split at h
      · simp only [Option.some.injEq] at h
        simp only [List.length_cons]
        omega
      · cases h
theorem slotAt_lt (ops : Array Oper) (k j : Nat) (_d : Unit) (h : slotAt ops.toList k 0 = some j) : j < ops.size := by
  have := slotAt_lt' ops.toList 0 k j h
  simpa using this
theorem act_eta (a : Act) : a = ⟨a.tmps, a.defers⟩ := rfl
theorem act_ext {a b : Act} (h1 : a.tmps.size = b.tmps.size) (h2 : ∀ k, k < a.tmps.size → a.tmps[k]? = b.tmps[k]?) (h3 : a.defers = b.defers) : a = b := by
  obtain ⟨ta, da⟩ := a
  obtain ⟨tb, db⟩ := b
  simp only at h1 h2 h3
  subst h3
  congr 1
  apply Array.ext_getElem?
  intro k
  rcases Nat.lt_or_ge k ta.size with h | h
  · exact h2 k h
  · rw [Array.getElem?_eq_none h, Array.getElem?_eq_none (by omega)]

section
variable {P : Program} {ops : Array Oper} {Q : Exit → Act → World → Prop}

theorem putAll_put {a : Act} (hdist : (List.range ops.size).all (fun i => (ops[i]?).all fun o => o.dst.all fun k => slotAt ops.toList k 0 == some i) = true)
    (n : Nat) (hn : a.tmps.size = n) (hin : ops.all (fun o => o.dst.all fun k => decide (k < n)) = true) :
    ∀ (i : Nat) o u v, ops[i]? = some o → (putAll u ops.toList 0 a).put o.dst v = putAll (fun j => if j = i then v else u j) ops.toList 0 a := by
  have hdi : ∀ (i : Nat) o k, ops[i]? = some o → o.dst = some k → slotAt ops.toList k 0 = some i := by
    intro i o k ho hk
    have hlt : i < ops.size := (Array.getElem?_eq_some_iff.1 ho).1
    have h1 := List.all_eq_true.1 hdist i (by simpa using hlt)
    rw [ho] at h1
    simp only [Option.all_some, hk] at h1
    simpa using h1
  have hki : ∀ (i : Nat) o k, ops[i]? = some o → o.dst = some k → k < a.tmps.size := by
    intro i o k ho hk
    have h1 := (Array.all_eq_true_iff_forall_mem.1 hin) o (Array.mem_of_getElem? ho)
    rw [hk] at h1
    rw [hn]
    simpa using h1
  have hslot : ∀ (os : List Oper) (i k j : Nat), slotAt os k i = some j → ∃ o, os[j - i]? = some o ∧ o.dst = some k ∧ i ≤ j := by
    intro os
    induction os with
    | nil => intro i k j h; cases h
    | cons o os ih =>
      intro i k j h
      rw [slotAt] at h
      cases h' : slotAt os k (i + 1) with
      | some q =>
        rw [h'] at h
        simp only [Option.some.injEq] at h
        subst h
        obtain ⟨o', h1, h2, h3⟩ := ih (i + 1) k q h'
        exact ⟨o', by rw [show q - i = (q - (i + 1)) + 1 by omega]; simpa using h1, h2, by omega⟩
      | none =>
        rw [h'] at h
        simp only at h
        split at h
        · next hd =>
          simp only [Option.some.injEq] at h
          subst h
          exact ⟨o, by simp, hd, Nat.le_refl _⟩
        · cases h
  intro i o u v ho
  cases hd : o.dst with
  | none =>
    refine act_ext (by simp [Act.put, putAll_size]) (fun k hk => ?_) (by simp [Act.put, putAll_defers])
    have hk' : k < a.tmps.size := by simpa [Act.put, putAll_size] using hk
    simp only [Act.put]
    rw [putAll_at _ _ _ _ _ hk', putAll_at _ _ _ _ _ hk']
    cases hs : slotAt ops.toList k 0 with
    | none => rfl
    | some j =>
      simp only
      obtain ⟨o', h1, h2, -⟩ := hslot _ _ _ _ hs
      have hne : j ≠ i := by
        rintro rfl
        have : ops[j]? = some o' := by simpa using h1
        rw [ho] at this
        injection this with this
        rw [this, h2] at hd
        cases hd
      rw [if_neg hne]
  | some d =>
    have hdk := hdi i o d ho hd
    have hds := hki i o d ho hd
    refine act_ext (by simp [Act.put, putAll_size]) (fun k hk => ?_) (by simp [Act.put, putAll_defers])
    have hk' : k < a.tmps.size := by simpa [Act.put, putAll_size] using hk
    simp only [Act.put]
    rw [Array.getElem?_setIfInBounds, putAll_at _ _ _ _ _ hk', putAll_at _ _ _ _ _ hk']
    by_cases hkd : d = k
    · subst hkd
      rw [hdk]
      simp [putAll_size, hds]
    · rw [if_neg hkd]
      cases hs : slotAt ops.toList k 0 with
      | none => rfl
      | some j =>
        simp only
        have hne : j ≠ i := by
          rintro rfl
          obtain ⟨o', h1, h2, -⟩ := hslot _ _ _ _ hs
          have : ops[j]? = some o' := by simpa using h1
          rw [ho] at this
          injection this with this
          rw [← this, hd] at h2
          injection h2 with h2
          exact hkd h2
        rw [if_neg hne]

theorem putAll_ini {a : Act} (_hdist : (List.range ops.size).all (fun i => (ops[i]?).all fun o => o.dst.all fun k => slotAt ops.toList k 0 == some i) = true)
    (_n : Nat) (_hn : a.tmps.size = _n) (_hin : ops.all (fun o => o.dst.all fun k => decide (k < _n)) = true) :
    a = putAll (fun j => match (ops[j]?).bind (·.dst) with | some k => a.tmps.getD k undef | none => undef) ops.toList 0 a := by
  have hslot : ∀ (os : List Oper) (i k j : Nat), slotAt os k i = some j → ∃ o, os[j - i]? = some o ∧ o.dst = some k ∧ i ≤ j := by
    intro os
    induction os with
    | nil => intro i k j h; cases h
    | cons o os ih =>
      intro i k j h
      rw [slotAt] at h
      cases h' : slotAt os k (i + 1) with
      | some q =>
        rw [h'] at h
        simp only [Option.some.injEq] at h
        subst h
        obtain ⟨o', h1, h2, h3⟩ := ih (i + 1) k q h'
        exact ⟨o', by rw [show q - i = (q - (i + 1)) + 1 by omega]; simpa using h1, h2, by omega⟩
      | none =>
        rw [h'] at h
        simp only at h
        split at h
        · next hd =>
          simp only [Option.some.injEq] at h
          subst h
          exact ⟨o, by simp, hd, Nat.le_refl _⟩
        · cases h
  refine act_ext (by rw [putAll_size]) (fun k hk => ?_) (by rw [putAll_defers])
  rw [putAll_at _ _ _ _ _ hk]
  cases hs : slotAt ops.toList k 0 with
  | none => rfl
  | some j =>
    simp only
    obtain ⟨o', h1, h2, -⟩ := hslot _ _ _ _ hs
    have h1' : ops[j]? = some o' := by simpa using h1
    rw [h1']
    simp [h2, hk]

/-- The region, op by op: 'Phi i v w': v is a good value of operation i in the world w. -/
theorem region_put {id : Nat} {a : Act} {w : World} (hm : P.follows .mixedOrders = true)
    (htopo : (List.range ops.size).all (fun i => (ops[i]?).all fun o => o.after.all fun e => !Region.binds .any e || decide (e.on < i)) = true)
    (hdist : (List.range ops.size).all (fun i => (ops[i]?).all fun o => o.dst.all fun k => slotAt ops.toList k 0 == some i) = true)
    (n : Nat) (hn : a.tmps.size = n)
    (hin : ops.all (fun o => o.dst.all fun k => decide (k < n)) = true)
    (V : World) (Phi : Nat → Value → World → Prop)
    (hV : Below V.heap.size V w)
    (hstab : ∀ i v w w', Phi i v w → Below w.heap.size w w' → Phi i v w')
    (hop : ∀ (i : Nat) o u w, ops[i]? = some o → Below V.heap.size V w → (∀ j, (o.after.any fun e => e.on == j && Region.binds .any e) = true → Phi j (u j) w) →
      (Region.wanted o (yielded ops (putAll u ops.toList 0 a).tmps) = true ∧
        ((∃ v w', (execOp (putAll u ops.toList 0 a).eval o).run P w = .ok (.value v) w' ∧ Phi i v w' ∧ Below w.heap.size w w') ∨
        (∃ f args post, (execOp (putAll u ops.toList 0 a).eval o).run P w = .ok (.enter f args) w ∧ Calls P f args w post ∧ ∀ e w', post e w' → ∃ v, e = .returned v ∧ Phi i v w' ∧ Below w.heap.size w w'))) ∨
      (Region.wanted o (yielded ops (putAll u ops.toList 0 a).tmps) = false ∧ Phi i undef w))
    (hend : ∀ u w, Below V.heap.size V w → (∀ i, i < ops.size → Phi i (u i) w) → Q .normal (putAll u ops.toList 0 a) w) : (Code.region id ops true).wp P Q a w := by
  have ht : ∀ (i : Nat) o, ops[i]? = some o → ∀ e ∈ o.after, Region.binds .any e = true → e.on < i := by
    intro i o ho e he hb
    have hlt : i < ops.size := (Array.getElem?_eq_some_iff.1 ho).1
    have h1 := List.all_eq_true.1 htopo i (by simpa using hlt)
    rw [ho] at h1
    simp only [Option.all_some] at h1
    have h2 := (Array.all_eq_true_iff_forall_mem.1 h1) e he
    simpa [hb] using h2
  have hput := putAll_put (ops := ops) (a := a) hdist n hn hin
  have hini := putAll_ini (ops := ops) (a := a) hdist n hn hin
  refine wp_region_any hm ?_
  refine wpAny_inv ht (fun l a' w => l.size = ops.size ∧ ∃ u, a' = putAll u ops.toList 0 a ∧ Below V.heap.size V w ∧ ∀ i, i < ops.size → l.getD i true = true → Phi i (u i) w) ?_ ?_ _ _ _ _ (by simp) ?_ ⟨by simp, _, hini, hV.drew, fun i hi hl => by simp [hi] at hl⟩
  · rintro i o l a' w ho ⟨hl, u, rfl, hb, hphi⟩ _ h0 hd
    have hlt : i < ops.size := (Array.getElem?_eq_some_iff.1 ho).1
    have hdep : ∀ j, (o.after.any fun e => e.on == j && Region.binds .any e) = true → Phi j (u j) w := by
      intro j hj
      obtain ⟨k, hk, hej⟩ := Array.any_eq_true.1 hj
      obtain ⟨e, he0⟩ : ∃ e, o.after[k] = e := ⟨_, rfl⟩
      have he : e ∈ o.after := by rw [← he0]; exact Array.getElem_mem hk
      rw [he0] at hej
      simp only [Bool.and_eq_true, beq_iff_eq] at hej
      obtain ⟨rfl, hbe⟩ := hej
      have h1 := ht i o ho e he hbe
      have h2 := hd e he hbe
      have hsz : e.on < l.size := by omega
      exact hphi _ (by omega) (by simpa [hsz] using h2)
    have hstep : ∀ v w', Phi i v w' → Below w.heap.size w w' → (l.setIfInBounds i true).size = ops.size ∧ ∃ u', (putAll u ops.toList 0 a).put o.dst v = putAll u' ops.toList 0 a ∧ Below V.heap.size V w' ∧ ∀ j, j < ops.size → (l.setIfInBounds i true).getD j true = true → Phi j (u' j) w' := by
      intro v w' hv hbw
      refine ⟨by simpa using hl, _, hput i o u v ho, hb.trans (hbw.mono hb.size), fun j hj hlj => ?_⟩
      by_cases hji : j = i
      · subst hji; rw [if_pos rfl]; exact hv
      · rw [if_neg hji]
        rw [getD_set l i j (by omega) true, if_neg hji] at hlj
        exact hstab _ _ _ _ (hphi j hj hlj) hbw
    unfold wpOp
    simp only [ho]
    rcases hop i o u w ho hb hdep with ⟨hw, h⟩ | ⟨hw, h⟩
    · rw [if_pos hw]
      refine .inl ?_
      rcases h with ⟨v, w', hr, hp, hbw⟩ | ⟨f, args, post, hr, hc, hk⟩
      · exact op_run hr (hstep v w' hp hbw)
      · exact op_call hr hc fun e w' he => by
          obtain ⟨v, rfl, hp, hbw⟩ := hk e w' he
          exact ⟨v, rfl, hstep v w' hp hbw⟩
    · rw [if_neg (by rw [hw]; simp)]
      exact hstep undef w h (Below.refl _ _)
  · rintro l a' w ⟨hl, u, rfl, hb, hphi⟩ hall
    exact hend u w hb fun i hi => hphi i hi (hall i hi)
  · exact Nat.le_trans (List.length_filter_le _ _) (by simp)

theorem wanted_none {o : Oper} {y : Nat → Option Bool} (h : o.guard = none) : Region.wanted o y = true := by simp [Region.wanted, h]
theorem wanted_yes {o : Oper} {y : Nat → Option Bool} {g : Nat} {b : Bool} (h : o.guard = some (g, b)) (hy : y g = some b) : Region.wanted o y = true := by simp [Region.wanted, h, hy]
theorem wanted_no {o : Oper} {y : Nat → Option Bool} {g : Nat} {b : Bool} (h : o.guard = some (g, b)) (hy : y g = some (!b)) : Region.wanted o y = false := by cases b <;> simp [Region.wanted, h, hy]
theorem yielded_put {u : Nat → Value} {a : Act} {g k : Nat} {b : Bool} (hk : (ops[g]?).bind (·.dst) = some k) (hs : slotAt ops.toList k 0 = some g) (n : Nat) (hn : a.tmps.size = n) (hkn : k < n) (hu : u g = .bool b) : yielded ops (putAll u ops.toList 0 a).tmps g = some b := by
  unfold yielded
  rw [hk]
  simp only [Option.bind_some]
  rw [putAll_at _ _ _ _ _ (by omega), hs]
  simp only
  rw [hu]
theorem eval_put {u : Nat → Value} {a : Act} {k j : Nat} (hs : slotAt ops.toList k 0 = some j) (n : Nat) (hn : a.tmps.size = n) (hkn : k < n) : (putAll u ops.toList 0 a).eval (.tmp k) = u j := by
  have := putAll_at u ops.toList 0 a k (by omega)
  rw [hs] at this
  simp only at this
  simp [Act.eval, Array.getD_eq_getD_getElem?, this]
theorem eval_old {u : Nat → Value} {a : Act} {k : Nat} {v : Value} (hs : slotAt ops.toList k 0 = none) (n : Nat) (hn : a.tmps.size = n) (hkn : k < n) (hv : a.tmps[k]? = some v) : (putAll u ops.toList 0 a).eval (.tmp k) = v := by
  have := putAll_at u ops.toList 0 a k (by omega)
  rw [hs] at this
  simp only at this
  simp [Act.eval, Array.getD_eq_getD_getElem?, this, hv]

/-- The same where each operation's value is known ahead, whatever the order. -/
theorem region_vals {id : Nat} {a : Act} {w : World} (hm : P.follows .mixedOrders = true)
    (htopo : (List.range ops.size).all (fun i => (ops[i]?).all fun o => o.after.all fun e => !Region.binds .any e || decide (e.on < i)) = true)
    (hdist : (List.range ops.size).all (fun i => (ops[i]?).all fun o => o.dst.all fun k => slotAt ops.toList k 0 == some i) = true)
    (n : Nat) (hn : a.tmps.size = n)
    (hin : ops.all (fun o => o.dst.all fun k => decide (k < n)) = true)
    (V : World) (hV : Below V.heap.size V w) (vals : List Value) (hlen : vals.length = ops.size)
    (hop : ∀ (i : Nat) o u w x, ops[i]? = some o → vals[i]? = some x → Below V.heap.size V w → (∀ j, (o.after.any fun e => e.on == j && Region.binds .any e) = true → ∀ y, vals[j]? = some y → u j = y) →
      (Region.wanted o (yielded ops (putAll u ops.toList 0 a).tmps) = true ∧
        ((∃ w', (execOp (putAll u ops.toList 0 a).eval o).run P w = .ok (.value x) w' ∧ Below w.heap.size w w') ∨
        (∃ f args, (execOp (putAll u ops.toList 0 a).eval o).run P w = .ok (.enter f args) w ∧ Calls P f args w fun e w' => e = .returned x ∧ Below w.heap.size w w'))) ∨
      (Region.wanted o (yielded ops (putAll u ops.toList 0 a).tmps) = false ∧ x = undef))
    (hend : ∀ w, Below V.heap.size V w → Q .normal (putAll (fun i => vals.getD i undef) ops.toList 0 a) w) : (Code.region id ops true).wp P Q a w := by
  refine region_put hm htopo hdist n hn hin V (fun i v _ => ∀ y, vals[i]? = some y → v = y) hV (fun i v w w' h _ => h) ?_ ?_
  · intro i o u w ho hb hd
    have hlt : i < ops.size := (Array.getElem?_eq_some_iff.1 ho).1
    have hx : vals[i]? = some vals[i] := List.getElem?_eq_getElem (by omega)
    rcases hop i o u w vals[i] ho hx hb hd with ⟨h1, h2⟩ | ⟨h1, h2⟩
    · refine .inl ⟨h1, ?_⟩
      rcases h2 with ⟨w', hr, hbw⟩ | ⟨f, args, hr, hc⟩
      · exact .inl ⟨_, w', hr, fun y hy => by rw [hx] at hy; exact Option.some.inj hy, hbw⟩
      · exact .inr ⟨f, args, _, hr, hc, fun e w' he => ⟨_, he.1, fun y hy => by rw [hx] at hy; exact Option.some.inj hy, he.2⟩⟩
    · exact .inr ⟨h1, fun y hy => by rw [hx] at hy; rw [← Option.some.inj hy]; exact h2.symm⟩
  · intro u w hb hall
    have : putAll u ops.toList 0 a = putAll (fun i => vals.getD i undef) ops.toList 0 a := by
      refine act_ext (by simp [putAll_size]) (fun k hk => ?_) (by simp [putAll_defers])
      have hk' : k < a.tmps.size := by simpa [putAll_size] using hk
      rw [putAll_at _ _ _ _ _ hk', putAll_at _ _ _ _ _ hk']
      cases hs : slotAt ops.toList k 0 with
      | none => rfl
      | some j =>
        simp only
        have hj : j < ops.size := slotAt_lt ops k j () hs
        have hx : vals[j]? = some vals[j] := List.getElem?_eq_getElem (by omega)
        rw [hall j hj _ hx]
        simp [List.getD, hx]
    rw [this]
    exact hend w hb

/-- The same, the last operation (it waits for all others) being of any kind: a store. -/
theorem region_vals_last {id : Nat} {a : Act} {w : World} (hm : P.follows .mixedOrders = true)
    (htopo : (List.range ops.size).all (fun i => (ops[i]?).all fun o => o.after.all fun e => !Region.binds .any e || decide (e.on < i)) = true)
    (hdist : (List.range ops.size).all (fun i => (ops[i]?).all fun o => o.dst.all fun k => slotAt ops.toList k 0 == some i) = true)
    (n : Nat) (hn : a.tmps.size = n)
    (hin : ops.all (fun o => o.dst.all fun k => decide (k < n)) = true)
    (V : World) (hV : Below V.heap.size V w) (vals : List Value) (hlen : vals.length = ops.size) (m : Nat) (hlast : ops.size = m + 1)
    (hlo : (ops[m]?).all (fun o => (List.range m).all fun i => o.after.any fun e => e.on == i && Region.binds .any e) = true)
    (R : World → Prop)
    (hop : ∀ (i : Nat) o u w x, ops[i]? = some o → vals[i]? = some x → Below V.heap.size V w → (∀ j, (o.after.any fun e => e.on == j && Region.binds .any e) = true → ∀ y, vals[j]? = some y → u j = y) →
      (Region.wanted o (yielded ops (putAll u ops.toList 0 a).tmps) = true ∧
        ((∃ w', ((execOp (putAll u ops.toList 0 a).eval o).run P w = .ok (.value x) w' ∨ ((execOp (putAll u ops.toList 0 a).eval o).run P w = .ok .skip w' ∧ x = undef)) ∧ if i = m then R w' else Below w.heap.size w w') ∨
        (i ≠ m ∧ ∃ f args, (execOp (putAll u ops.toList 0 a).eval o).run P w = .ok (.enter f args) w ∧ Calls P f args w fun e w' => e = .returned x ∧ Below w.heap.size w w'))) ∨
      (i ≠ m ∧ Region.wanted o (yielded ops (putAll u ops.toList 0 a).tmps) = false ∧ x = undef))
    (hend : ∀ w, R w → Q .normal (putAll (fun i => vals.getD i undef) ops.toList 0 a) w) : (Code.region id ops true).wp P Q a w := by
  have ht : ∀ (i : Nat) o, ops[i]? = some o → ∀ e ∈ o.after, Region.binds .any e = true → e.on < i := by
    intro i o ho e he hb
    have hlt : i < ops.size := (Array.getElem?_eq_some_iff.1 ho).1
    have h1 := List.all_eq_true.1 htopo i (by simpa using hlt)
    rw [ho] at h1
    simp only [Option.all_some] at h1
    have h2 := (Array.all_eq_true_iff_forall_mem.1 h1) e he
    simpa [hb] using h2
  have hput := putAll_put (ops := ops) (a := a) hdist n hn hin
  have hini := putAll_ini (ops := ops) (a := a) hdist n hn hin
  refine wp_region_any hm ?_
  refine wpAny_inv ht (fun l a' w => l.size = ops.size ∧ ∃ u, a' = putAll u ops.toList 0 a ∧ (∀ i, i < ops.size → l.getD i true = true → ∀ y, vals[i]? = some y → u i = y) ∧ (l.getD m false = true → ∀ i, i < ops.size → l.getD i true = true) ∧ if l.getD m false = true then R w else Below V.heap.size V w) ?_ ?_ _ _ _ _ (by simp) ?_ ⟨by simp, _, hini, fun i hi hl => by simp [hi] at hl, fun h => by simp [hlast] at h, by simp [hlast]; exact hV.drew⟩
  · rintro i o l a' w ho ⟨hl, u, rfl, hphi, hmall, hb0⟩ _ h0 hd
    have hlt : i < ops.size := (Array.getElem?_eq_some_iff.1 ho).1
    have hdep : ∀ j, (o.after.any fun e => e.on == j && Region.binds .any e) = true → ∀ y, vals[j]? = some y → u j = y := by
      intro j hj
      obtain ⟨k, hk, hej⟩ := Array.any_eq_true.1 hj
      obtain ⟨e, he0⟩ : ∃ e, o.after[k] = e := ⟨_, rfl⟩
      have he : e ∈ o.after := by rw [← he0]; exact Array.getElem_mem hk
      rw [he0] at hej
      simp only [Bool.and_eq_true, beq_iff_eq] at hej
      obtain ⟨rfl, hbe⟩ := hej
      have h1 := ht i o ho e he hbe
      have h2 := hd e he hbe
      have hsz : e.on < l.size := by omega
      exact hphi _ (by omega) (by simpa [hsz] using h2)
    have hnm : l.getD m false = false := by
      cases h : l.getD m false with
      | false => rfl
      | true => rw [hmall h i hlt] at h0; cases h0
    rw [hnm] at hb0
    simp only [Bool.false_eq_true, if_false] at hb0
    have hx : vals[i]? = some vals[i] := List.getElem?_eq_getElem (by omega)
    have hstep : ∀ v w', v = vals[i] → (if i = m then R w' else Below w.heap.size w w') → (l.setIfInBounds i true).size = ops.size ∧ ∃ u', (putAll u ops.toList 0 a).put o.dst v = putAll u' ops.toList 0 a ∧ (∀ j, j < ops.size → (l.setIfInBounds i true).getD j true = true → ∀ y, vals[j]? = some y → u' j = y) ∧ ((l.setIfInBounds i true).getD m false = true → ∀ j, j < ops.size → (l.setIfInBounds i true).getD j true = true) ∧ if (l.setIfInBounds i true).getD m false = true then R w' else Below V.heap.size V w' := by
      intro v w' hv hR
      refine ⟨by simpa using hl, _, hput i o u v ho, fun j hj hlj y hy => ?_, fun h j hj => ?_, ?_⟩
      · by_cases hji : j = i
        · subst hji; rw [if_pos rfl, hv]; rw [hx] at hy; exact Option.some.inj hy
        · rw [if_neg hji]
          rw [getD_set l i j (by omega) true, if_neg hji] at hlj
          exact hphi j hj hlj y hy
      · rw [getD_set l i m (by omega) false] at h
        rw [getD_set l i j (by omega) true]
        by_cases him : m = i
        · by_cases hji : j = i
          · rw [if_pos hji]
          · rw [if_neg hji]
            subst him
            rw [ho] at hlo
            simp only [Option.all_some] at hlo
            have h1 := List.all_eq_true.1 hlo j (by simp; omega)
            obtain ⟨k, hk, hej⟩ := Array.any_eq_true.1 h1
            obtain ⟨e, he0⟩ : ∃ e, o.after[k] = e := ⟨_, rfl⟩
            have he : e ∈ o.after := by rw [← he0]; exact Array.getElem_mem hk
            rw [he0] at hej
            simp only [Bool.and_eq_true, beq_iff_eq] at hej
            have h2 := hd e he hej.2
            have hsz : j < l.size := by omega
            rw [hej.1] at h2
            simpa [hsz] using h2
        · rw [if_neg him, hnm] at h
          cases h
      · rw [getD_set l i m (by omega) false]
        by_cases him : i = m
        · subst him
          simpa using hR
        · rw [if_neg (Ne.symm him), hnm]
          rw [if_neg him] at hR
          simp only [Bool.false_eq_true, if_false]
          exact hb0.trans (hR.mono hb0.size)
    unfold wpOp
    simp only [ho]
    rcases hop i o u w vals[i] ho hx hb0 hdep with ⟨hw, h⟩ | ⟨him, hw, h⟩
    · rw [if_pos hw]
      refine .inl ?_
      rcases h with ⟨w', hr | ⟨hr, hxu⟩, hbw⟩ | ⟨him, f, args, hr, hc⟩
      · exact op_run hr (hstep _ w' rfl hbw)
      · exact op_skip hr (hstep _ w' hxu.symm hbw)
      · exact op_call hr hc fun e w' he => ⟨_, he.1, hstep _ w' rfl (by rw [if_neg him]; exact he.2)⟩
    · rw [if_neg (by rw [hw]; simp)]
      exact hstep undef w h.symm (by rw [if_neg him]; exact Below.refl _ _)
  · rintro l a' w ⟨hl, u, rfl, hphi, -, hb⟩ hall
    have hml : m < l.size := by omega
    have := hall m (by omega)
    have hm2 : l.getD m false = true := by simpa [hml] using this
    rw [if_pos hm2] at hb
    have he : putAll u ops.toList 0 a = putAll (fun i => vals.getD i undef) ops.toList 0 a := by
      refine act_ext (by simp [putAll_size]) (fun k hk => ?_) (by simp [putAll_defers])
      have hk' : k < a.tmps.size := by simpa [putAll_size] using hk
      rw [putAll_at _ _ _ _ _ hk', putAll_at _ _ _ _ _ hk']
      cases hs : slotAt ops.toList k 0 with
      | none => rfl
      | some j =>
        simp only
        have hj : j < ops.size := slotAt_lt ops k j () hs
        have hx : vals[j]? = some vals[j] := List.getElem?_eq_getElem (by omega)
        rw [hphi j hj (hall j hj) _ hx]
        simp [List.getD, hx]
    rw [he]
    exact hend w hb
  · exact Nat.le_trans (List.length_filter_le _ _) (by simp)
end
/-- A whole block, loaded as a struct. -/
theorem load_blk {P : Program} {W : World} {g : Nat} {cs : Array Value} {e ty : TypeId} {fs : Array Field} (hu : P.underlying ty = some (.struct fs)) (hi : (P.info? ty).map (·.size) = some cs.size) (h : Blk W g cs.toList e)
    {ev : Operand → Value} {o : Oper} {x : Operand} (ho : o.op = .load ty x) (hx : ev x = .pointer (some ⟨g, 0, none⟩)) : (execOp ev o).run P W = .ok (.value (.agg cs)) W := by
  have hg : W.heap[g]? = some (.cells cs e (0, 0)) := by simpa [Blk] using h
  unfold execOp
  simp only [ho, hx, Instr.loadAt, Instr.sureAddr, Sem.run_bind, Sem.run_pure, Result.andThen_ok, run_loadVar_row W g e ty cs (0, 0) _ hg hu rfl hi]
/-- A whole block, loaded as an array. -/
theorem load_blk_arr {P : Program} {W : World} {g : Nat} {cs : Array Value} {e ty el : TypeId} {n : Nat} (hu : P.underlying ty = some (.array n el)) (hi : (P.info? ty).map (·.size) = some cs.size) (h : Blk W g cs.toList e)
    {ev : Operand → Value} {o : Oper} {x : Operand} (ho : o.op = .load ty x) (hx : ev x = .pointer (some ⟨g, 0, none⟩)) : (execOp ev o).run P W = .ok (.value (.agg cs)) W := by
  have hg : W.heap[g]? = some (.cells cs e (0, 0)) := by simpa [Blk] using h
  unfold execOp
  simp only [ho, hx, Instr.loadAt, Instr.sureAddr, Sem.run_bind, Sem.run_pure, Result.andThen_ok, run_loadVar_row W g e ty cs (0, 0) _ hg hu rfl hi]
end Go.Proofs.YteodjajjlgekcaaDoor
