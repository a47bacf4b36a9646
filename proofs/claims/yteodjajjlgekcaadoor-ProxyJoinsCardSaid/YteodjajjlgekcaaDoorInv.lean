/- A region that draws its order, by one fact for each operation: whatever the order, an operation finds what it waits for, and what was found stays. Nothing of the program's own code is named here. -/
import Derived.WalkKit
import Derived.OrdersHeld
import Derived.Deep.RegionHeld
import Derived.Test.YteodjajjlgekcaaDoorMem
namespace Go.Proofs.YteodjajjlgekcaaDoor
open Go.RowKit

section
variable {P : Program} {ops : Array Oper} {Q : Exit → Act → World → Prop}

theorem getD_set (l : Array Bool) (i j : Nat) (hi : i < l.size) (d : Bool) : (l.setIfInBounds i true).getD j d = if j = i then true else l.getD j d := by
  by_cases h : j = i
  · subst h; simp [hi]
  · rw [if_neg h]
    simp [Ne.symm h]

/-- What has no edge but from those ahead of it comes up, as long as any is left. -/
theorem ready_all (htopo : ∀ (i : Nat) o, ops[i]? = some o → ∀ e ∈ o.after, Region.binds .any e = true → e.on < i) (l : Array Bool) (hl : l.size = ops.size)
    (hr : Region.ready .any ops l = []) : ∀ i, i < ops.size → l.getD i true = true := by
  intro i
  induction i using Nat.strongRecOn with
  | ind i ih =>
    intro hi
    cases h : l.getD i true with
    | true => rfl
    | false =>
      have hm : i ∈ Region.ready .any ops l := by
        rw [mem_ready]
        refine ⟨h, ops[i], Array.getElem?_eq_getElem hi, fun e he hb => ?_⟩
        have hlt := htopo i _ (Array.getElem?_eq_getElem hi) e he hb
        have := ih e.on hlt (by omega)
        have hsz : e.on < l.size := by omega
        simpa [hsz] using this
      rw [hr] at hm
      cases hm

theorem wpAny_inv (htopo : ∀ (i : Nat) o, ops[i]? = some o → ∀ e ∈ o.after, Region.binds .any e = true → e.on < i) (I : Array Bool → Act → World → Prop)
    (hstep : ∀ (i : Nat) o l a w, ops[i]? = some o → I l a w → l.size = ops.size → l.getD i true = false → (∀ e ∈ o.after, Region.binds .any e = true → l.getD e.on false = true) → wpOp P ops Q i (fun a' w' => I (l.setIfInBounds i true) a' w') a w)
    (hdone : ∀ l a w, I l a w → (∀ i, i < ops.size → l.getD i true = true) → Q .normal a w) :
    ∀ (fuel : Nat) (l : Array Bool) (a : Act) (w : World), l.size = ops.size → ((List.range ops.size).filter fun i => !l.getD i true).length ≤ fuel → I l a w → wpAny P .any ops Q fuel l a w := by
  intro fuel
  induction fuel with
  | zero =>
    intro l a w hl hf hI
    have hr : Region.ready .any ops l = [] := by
      cases h : Region.ready .any ops l with
      | nil => rfl
      | cons i r =>
        have hm : i ∈ Region.ready .any ops l := by rw [h]; simp
        obtain ⟨h0, o, ho, _⟩ := mem_ready.1 hm
        have hlt : i < ops.size := (Array.getElem?_eq_some_iff.1 ho).1
        have : i ∈ (List.range ops.size).filter fun i => !l.getD i true := by rw [List.mem_filter]; exact ⟨by simpa using hlt, by rw [h0]; rfl⟩
        have := List.length_pos_of_mem this
        omega
    exact ⟨hr, hdone l a w hI (ready_all htopo l hl hr)⟩
  | succ fuel ih =>
    intro l a w hl hf hI
    refine ⟨fun hr => hdone l a w hI (ready_all htopo l hl hr), fun i hi => ?_⟩
    obtain ⟨h0, o, ho, hd⟩ := mem_ready.1 hi
    have hlt : i < ops.size := (Array.getElem?_eq_some_iff.1 ho).1
    refine wpOp_mono (fun a' w' hI' => ih _ a' w' (by simpa using hl) ?_ hI') (hstep i o l a w ho hI hl h0 hd)
    have hcount : ((List.range ops.size).filter fun j => !(l.setIfInBounds i true).getD j true).length < ((List.range ops.size).filter fun j => !l.getD j true).length := by
      have hsub : (List.range ops.size).filter (fun j => !(l.setIfInBounds i true).getD j true) = ((List.range ops.size).filter fun j => !l.getD j true).filter (fun j => j != i) := by
        rw [List.filter_filter]
        apply List.filter_congr
        intro j _
        rw [getD_set l i j (by omega) true]
        by_cases hji : j = i
        · subst hji; simp
        · simp [hji]
      rw [hsub]
      apply List.length_filter_lt_length_iff_exists.2
      exact ⟨i, by rw [List.mem_filter]; exact ⟨by simpa using hlt, by rw [h0]; rfl⟩, by simp⟩
    omega

/-- The region, op by op: 'Phi i v w': v is a good value of operation i in the world w. -/
theorem region_inv {id : Nat} {a : Act} {w : World} (hm : P.follows .mixedOrders = true)
    (htopo : (List.range ops.size).all (fun i => (ops[i]?).all fun o => o.after.all fun e => !Region.binds .any e || decide (e.on < i)) = true)
    (hguard : ops.all (fun o => o.guard.isNone) = true)
    (mk : (Nat → Value) → Act) (u0 : Nat → Value) (V : World) (Phi : Nat → Value → World → Prop)
    (hmk : a = mk u0)
    (hV : Below V.heap.size V w)
    (hstab : ∀ i v w w', Phi i v w → Below w.heap.size w w' → Phi i v w')
    (hput : ∀ (i : Nat) o u v, ops[i]? = some o → (mk u).put o.dst v = mk (fun j => if j = i then v else u j))
    (hop : ∀ (i : Nat) o u w K, ops[i]? = some o → Below V.heap.size V w → (∀ j, (o.after.any fun e => e.on == j && Region.binds .any e) = true → Phi j (u j) w) → (∀ v w', Phi i v w' → Below w.heap.size w w' → K ((mk u).put o.dst v) w') → o.wp P (mk u) w K Q)
    (hend : ∀ u w, Below V.heap.size V w → (∀ i, i < ops.size → Phi i (u i) w) → Q .normal (mk u) w) : (Code.region id ops true).wp P Q a w := by
  have ht : ∀ (i : Nat) o, ops[i]? = some o → ∀ e ∈ o.after, Region.binds .any e = true → e.on < i := by
    intro i o ho e he hb
    have hlt : i < ops.size := (Array.getElem?_eq_some_iff.1 ho).1
    have h1 := List.all_eq_true.1 htopo i (by simpa using hlt)
    rw [ho] at h1
    simp only [Option.all_some] at h1
    have h2 := (Array.all_eq_true_iff_forall_mem.1 h1) e he
    simpa [hb] using h2
  refine wp_region_any hm ?_
  refine wpAny_inv ht (fun l a w => l.size = ops.size ∧ ∃ u, a = mk u ∧ Below V.heap.size V w ∧ ∀ i, i < ops.size → l.getD i true = true → Phi i (u i) w) ?_ ?_ _ _ _ _ (by simp) ?_ ⟨by simp, u0, hmk, hV.drew, fun i hi hl => by simp [hi] at hl⟩
  · rintro i o l a w ho ⟨hl, u, rfl, hb, hphi⟩ _ h0 hd
    have hlt : i < ops.size := (Array.getElem?_eq_some_iff.1 ho).1
    have hg : o.guard = none := by
      have := (Array.all_eq_true_iff_forall_mem.1 hguard) o (Array.mem_of_getElem? ho)
      simpa using this
    have hw : Region.wanted o (yielded ops (mk u).tmps) = true := by simp [Region.wanted, hg]
    unfold wpOp
    simp only [ho, hw, if_true]
    refine .inl (hop i o u w _ ho hb ?_ ?_)
    · intro j hj
      obtain ⟨k, hk, hej⟩ := Array.any_eq_true.1 hj
      obtain ⟨e, he0⟩ : ∃ e, o.after[k] = e := ⟨_, rfl⟩
      have he : e ∈ o.after := by rw [← he0]; exact Array.getElem_mem hk
      rw [he0] at hej
      simp only [Bool.and_eq_true, beq_iff_eq] at hej
      obtain ⟨rfl, hbe⟩ := hej
      have h1 := ht i o ho e he hbe
      have h2 := hd e he hbe
      have hsz : e.on < l.size := by omega
      exact hphi _ (by omega) (by simpa [hsz] using h2)
    · intro v w' hv hbw
      refine ⟨by simpa using hl, _, hput i o u v ho, hb.trans (hbw.mono hb.size), fun j hj hlj => ?_⟩
      by_cases hji : j = i
      · subst hji; rw [if_pos rfl]; exact hv
      · rw [if_neg hji]
        rw [getD_set l i j (by omega) true, if_neg hji] at hlj
        exact hstab _ _ _ _ (hphi j hj hlj) hbw
  · rintro l a w ⟨hl, u, rfl, hb, hphi⟩ hall
    exact hend u w hb fun i hi => hphi i hi (hall i hi)
  · exact Nat.le_trans (List.length_filter_le _ _) (by simp)
end
theorem op_run {P : Program} {o : Oper} {a : Act} {w w' : World} {v : Value} {K : Act → World → Prop} {Q : Exit → Act → World → Prop} (h : (execOp a.eval o).run P w = .ok (.value v) w') (hK : K (a.put o.dst v) w') : o.wp P a w K Q := by
  unfold Oper.wp
  rw [h]
  exact hK
theorem op_call {P : Program} {o : Oper} {a : Act} {w : World} {f : Nat} {args : Array Value} {K : Act → World → Prop} {Q : Exit → Act → World → Prop} {post : Ending → World → Prop} (h : (execOp a.eval o).run P w = .ok (.enter f args) w) (hc : Calls P f args w post) (hK : ∀ e w', post e w' → ∃ v, e = .returned v ∧ K (a.put o.dst v) w') : o.wp P a w K Q := by
  unfold Oper.wp
  rw [h]
  refine Calls.mono hc fun e w' he => ?_
  obtain ⟨v, rfl, hk⟩ := hK e w' he
  exact hk

end Go.Proofs.YteodjajjlgekcaaDoor
