/- The walk of the statement on the order of a ring's buffers. -/
import Derived.Test.YtggcomociojfoabLaw15n
namespace Go.Proofs.Ytggcomociojfoab
open Go.RowKit

/-- What a law's walk is told of a slice of pairs of integers that came in. -/
def InPairs (w : World) (a : Option Addr) (len cap : Nat) : Prop :=
  (a = none ∧ len = 0 ∧ cap = 0) ∨ ∃ x, a = some x ∧ len ≤ cap ∧ cap ≤ maxLen ∧ ∀ i, i < cap → ∃ (k n : Int), w.cell? (x.add (i * 2 + 0)) = some (.int .i64 k) ∧ w.cell? (x.add (i * 2 + 1)) = some (.int .i64 n) ∧ (Lit.int .i64 k).wf = true ∧ (Lit.int .i64 n).wf = true
theorem pairs_at {w : World} {a : Option Addr} {len cap : Nat} (h : InPairs w a len cap) : len ≤ cap ∧ cap ≤ 9223372036854775807 ∧ ∀ j, j < len → ∃ b off, a = some ⟨b, off, none⟩ ∧ b < w.heap.size ∧ ∃ (k n : Int), w.cell? ⟨b, off + j * 2, none⟩ = some (.int .i64 k) ∧ w.cell? ⟨b, off + j * 2 + 1, none⟩ = some (.int .i64 n) ∧ (Lit.int .i64 k).wf = true ∧ (Lit.int .i64 n).wf = true := by
  rcases h with ⟨rfl, rfl, rfl⟩ | ⟨x, rfl, h1, h2, h3⟩
  · exact ⟨by omega, by omega, fun j hj => by omega⟩
  · refine ⟨h1, by simpa [maxLen] using h2, fun j hj => ?_⟩
    obtain ⟨k, n, c0, c1, w0, w1⟩ := h3 j (by omega)
    obtain ⟨b, off, spot⟩ := x
    have hadd : ∀ i, (⟨b, off, spot⟩ : Addr).add i = if i = 0 then ⟨b, off, spot⟩ else ⟨b, off + i, none⟩ := fun i => rfl
    obtain rfl : spot = none := by
      have h0 := h3 0 (by omega)
      obtain ⟨k, n, c0, -⟩ := h0
      simpa [Addr.add] using World.cell?_spot c0
    have he : ∀ i, (⟨b, off, none⟩ : Addr).add i = ⟨b, off + i, none⟩ := fun i => by
      simp only [Addr.add]
      split
      · next h0 => rw [h0]; rfl
      · rfl
    rw [he] at c0 c1
    exact ⟨b, off, rfl, World.block_lt_of_cell? w _ c0, k, n, c0, c1, w0, w1⟩

/-- The last L buffers before nx are N0, N0 + 1, .. -/
def Qu (buf : List Int) (nx n L N0 : Nat) : Prop := ∀ t, t < L → buf[(nx + n - L + t) % n]? = some ((N0 + t : Nat) : Int)
theorem mod2 (a n : Nat) (_hn : 0 < n) (h : a < 2 * n) : (a % n = a ∧ a < n) ∨ (a % n = a - n ∧ n ≤ a) := by
  rcases Nat.lt_or_ge a n with h1 | h1
  · exact .inl ⟨Nat.mod_eq_of_lt h1, h1⟩
  · right
    refine ⟨?_, h1⟩
    rw [Nat.mod_eq_sub_mod h1]
    exact Nat.mod_eq_of_lt (by omega)
theorem Qu.post {buf : List Int} {nx n L N0 : Nat} (h : Qu buf nx n L N0) (hl : buf.length = n) (hnx : nx < n) (hL : L < n) : Qu (buf.set nx ((N0 + L : Nat) : Int)) ((nx + 1) % n) n (L + 1) N0 := by
  intro t ht
  have h1 := mod2 (nx + 1) n (by omega) (by omega)
  have h2 := mod2 ((nx + 1) % n + n - (L + 1) + t) n (by omega) (by omega)
  by_cases htL : t = L
  · subst htL
    have : ((nx + 1) % n + n - (t + 1) + t) % n = nx := by omega
    rw [this, List.getElem?_set_self (by omega)]
  · have h3 := mod2 (nx + n - L + t) n (by omega) (by omega)
    have he : ((nx + 1) % n + n - (L + 1) + t) % n = (nx + n - L + t) % n := by omega
    have hne : nx ≠ (nx + n - L + t) % n := by omega
    rw [he, List.getElem?_set_ne hne]
    exact h t (by omega)
theorem Qu.reap {buf : List Int} {nx n L N0 : Nat} (h : Qu buf nx n (L + 1) N0) (hL : L < n) : Qu buf nx n L (N0 + 1) := by
  intro t ht
  have := h (t + 1) (by omega)
  rw [show nx + n - (L + 1) + (t + 1) = nx + n - L + t by omega] at this
  rw [this]
  congr 2
  omega

end Go.Proofs.Ytggcomociojfoab
