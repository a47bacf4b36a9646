/- Plain words on blocks of cells that the call laid: a block's cells as a list, kept over worlds, and behind a store. Nothing of the program's own code is named here. -/
import Derived.Test.YteodjajjlgekcaaDoorMem
namespace Go.Proofs.YteodjajjlgekcaaDoor
open Go.RowKit

/-- The block g of w holds these cells, none of them frozen. -/
def Blk (w : World) (g : Nat) (cs : List Value) (e : TypeId) : Prop := w.heap[g]? = some (.cells cs.toArray e (0, 0))

section
variable {w w' : World} {g : Nat} {cs : List Value} {e : TypeId}
theorem Blk.lt (h : Blk w g cs e) : g < w.heap.size := by
  rcases Nat.lt_or_ge g w.heap.size with h' | h'
  · exact h'
  · unfold Blk at h; rw [Array.getElem?_eq_none h'] at h; cases h
theorem Blk.new (w : World) (cs : Array Value) (e : TypeId) : Blk (w.alloc (.cells cs e)) w.heap.size cs.toList e := by
  unfold Blk
  show (w.heap.push _)[w.heap.size]? = _
  simp
theorem Blk.alloc (h : Blk w g cs e) (o : Obj) : Blk (w.alloc o) g cs e := by
  have := h.lt
  unfold Blk
  rw [Below.heap_alloc _ _ _ this]
  exact h
theorem Blk.drew (h : Blk w g cs e) : Blk w.drew g cs e := h
theorem Blk.drewN (h : Blk w g cs e) (n : Nat) : Blk (w.drewN n) g cs e := h
theorem Blk.below {B : Nat} (h : Blk w g cs e) (hb : Below B w w') (hg : g < B) : Blk w' g cs e := by
  unfold Blk
  rw [hb.block g hg]
  exact h
theorem Blk.next (h : Blk w g cs e) (hb : Below w.heap.size w w') : Blk w' g cs e := h.below hb h.lt
theorem Blk.cell (h : Blk w g cs e) (j : Nat) : w.cell? ⟨g, j, none⟩ = cs[j]? := by
  unfold Blk at h
  simp [World.cell?, h]
theorem Blk.frozen (h : Blk w g cs e) (j : Nat) : w.frozen? ⟨g, j, none⟩ = false := by
  unfold Blk at h
  simp [World.frozen?, h]
theorem Blk.set (h : Blk w g cs e) (j : Nat) (v : Value) : Blk (w.setCell ⟨g, j, none⟩ v) g (cs.set j v) e := by
  unfold Blk at h ⊢
  simp only [World.setCell, Array.getElem?_modify]
  rw [if_pos trivial, h]
  simp
theorem Blk.other {g' : Nat} (h : Blk w g cs e) (hne : g ≠ g') (j : Nat) (v : Value) : Blk (w.setCell ⟨g', j, none⟩ v) g cs e := by
  unfold Blk
  rw [Below.heap_setCell _ _ _ _ hne]
  exact h
end
section
variable {w : World} {g : Nat} {e : TypeId} {v0 v1 v2 v3 u0 u1 u2 u3 : Value}
theorem Blk.get1 (h : Blk w g [v0] e) : w.cell? ⟨g, 0, none⟩ = some v0 ∧ w.frozen? ⟨g, 0, none⟩ = false := ⟨h.cell 0, h.frozen 0⟩
theorem Blk.get2 (h : Blk w g [v0, v1] e) : w.cell? ⟨g, 0, none⟩ = some v0 ∧ w.cell? ⟨g, 1, none⟩ = some v1 ∧ w.frozen? ⟨g, 0, none⟩ = false ∧ w.frozen? ⟨g, 1, none⟩ = false := ⟨h.cell 0, h.cell 1, h.frozen 0, h.frozen 1⟩
theorem Blk.get3 (h : Blk w g [v0, v1, v2] e) : w.cell? ⟨g, 0, none⟩ = some v0 ∧ w.cell? ⟨g, 1, none⟩ = some v1 ∧ w.cell? ⟨g, 2, none⟩ = some v2 ∧ w.frozen? ⟨g, 0, none⟩ = false ∧ w.frozen? ⟨g, 1, none⟩ = false ∧ w.frozen? ⟨g, 2, none⟩ = false := ⟨h.cell 0, h.cell 1, h.cell 2, h.frozen 0, h.frozen 1, h.frozen 2⟩
theorem Blk.get4 (h : Blk w g [v0, v1, v2, v3] e) : w.cell? ⟨g, 0, none⟩ = some v0 ∧ w.cell? ⟨g, 1, none⟩ = some v1 ∧ w.cell? ⟨g, 2, none⟩ = some v2 ∧ w.cell? ⟨g, 3, none⟩ = some v3 ∧ w.frozen? ⟨g, 0, none⟩ = false ∧ w.frozen? ⟨g, 1, none⟩ = false ∧ w.frozen? ⟨g, 2, none⟩ = false ∧ w.frozen? ⟨g, 3, none⟩ = false := ⟨h.cell 0, h.cell 1, h.cell 2, h.cell 3, h.frozen 0, h.frozen 1, h.frozen 2, h.frozen 3⟩
theorem Blk.set3 (h : Blk w g [v0, v1, v2] e) : Blk (((w.setCell ⟨g, 0, none⟩ u0).setCell ⟨g, 1, none⟩ u1).setCell ⟨g, 2, none⟩ u2) g [u0, u1, u2] e := ((h.set 0 u0).set 1 u1).set 2 u2
theorem Blk.other3 {cs : List Value} {g' : Nat} (h : Blk w g cs e) (hne : g ≠ g') : Blk (((w.setCell ⟨g', 0, none⟩ u0).setCell ⟨g', 1, none⟩ u1).setCell ⟨g', 2, none⟩ u2) g cs e := ((h.other hne 0 u0).other hne 1 u1).other hne 2 u2
theorem bset3 {B : Nat} {w0 w : World} (hB : Below B w0 w) {g : Nat} (hg : B ≤ g) (v0 v1 v2 : Value) : Below B w0 (((w.setCell ⟨g, 0, none⟩ v0).setCell ⟨g, 1, none⟩ v1).setCell ⟨g, 2, none⟩ v2) :=
  ((hB.setCell hg v0).setCell hg v1).setCell hg v2
end

/-- What a law's walk is told of a slice of bools that came in. -/
def InBools (w : World) (a : Option Addr) (len cap : Nat) : Prop :=
  (a = none ∧ len = 0 ∧ cap = 0) ∨ ∃ x, a = some x ∧ len ≤ cap ∧ cap ≤ maxLen ∧ ∀ i, i < cap → ∃ (b : Bool), w.cell? (x.add (i * 1 + 0)) = some (.bool b)
def bb (b : Bool) : Value := .bool b
theorem choose_list {α : Type} {p : Nat → α → Prop} : ∀ (n : Nat), (∀ i, i < n → ∃ a, p i a) → ∃ l : List α, l.length = n ∧ ∀ i (h : i < l.length), p i l[i]
  | 0, _ => ⟨[], rfl, fun i h => by simp at h⟩
  | n + 1, h => by
    obtain ⟨l, hl, hp⟩ := choose_list n fun i hi => h i (by omega)
    obtain ⟨a, ha⟩ := h n (by omega)
    refine ⟨l ++ [a], by simp [hl], fun i hi => ?_⟩
    by_cases h' : i < l.length
    · rw [List.getElem_append_left h']; exact hp i h'
    · obtain rfl : i = n := by simp at hi; omega
      subst hl
      simpa using ha
theorem bools_rd {w : World} {a : Option Addr} {len cap : Nat} (h : InBools w a len cap) : ∃ bs : List Bool, bs.length = len ∧ Rd bb w w.heap.size a cap bs := by
  rcases h with ⟨rfl, rfl, rfl⟩ | ⟨x, rfl, hl, hm, hc⟩
  · exact ⟨[], rfl, Rd.nil0 _ _ _⟩
  · obtain ⟨bs, hbl, hbs⟩ := choose_list (p := fun i b => w.cell? (x.add (i * 1 + 0)) = some (bb b)) len fun i hi => hc i (by omega)
    refine ⟨bs, hbl, by omega, by simpa [maxLen] using hm, fun hh => by simp at hh, fun hn => ?_⟩
    obtain ⟨b, off, spot⟩ := x
    obtain rfl : spot = none := by simpa [Addr.add] using World.cell?_spot (hbs 0 hn)
    refine ⟨b, off, rfl, World.block_lt_of_cell? w ⟨b, off, none⟩ (by simpa [Addr.add] using hbs 0 hn), fun j hj => ?_⟩
    have hcj := hbs j hj
    have he : (⟨b, off, none⟩ : Addr).add (j * 1 + 0) = ⟨b, off + j, none⟩ := by
      simp only [Addr.add, Nat.mul_one, Nat.add_zero]
      split
      · next h0 => rw [h0]; rfl
      · rfl
    rw [he] at hcj
    exact hcj
end Go.Proofs.YteodjajjlgekcaaDoor
