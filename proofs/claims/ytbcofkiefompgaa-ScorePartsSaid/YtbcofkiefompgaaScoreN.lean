/- Plain words on runs of probes: rows of alike ones, who is up behind them. Nothing of the program's own code is named here. -/
import Derived.WalkKit
namespace Go.Proofs.Ytbcofkiefompgaa

theorem snoc_ind {α : Type} {P : List α → Prop} (h0 : P []) (h1 : ∀ l x, P l → P (l ++ [x])) : ∀ l, P l := by
  intro l
  have : ∀ m : List α, P m.reverse := by
    intro m
    induction m with
    | nil => simpa using h0
    | cons x m ih => simpa using h1 _ x ih
  simpa using this l.reverse

/-- One probe more: up, good ones, bad ones at the end. -/
def stepS (r f : Int) (s : Bool × Nat × Nat) (g : Bool) : Bool × Nat × Nat :=
  if g then (if r ≤ ((s.2.1 + 1 : Nat) : Int) then true else s.1, s.2.1 + 1, 0) else (if f ≤ ((s.2.2 + 1 : Nat) : Int) then false else s.1, 0, s.2.2 + 1)
/-- All of a list, from the first on. -/
def foldS (r f : Int) (l : List Bool) : Bool × Nat × Nat := l.foldl (stepS r f) (false, 0, 0)
theorem foldS_snoc (r f : Int) (l : List Bool) (g : Bool) : foldS r f (l ++ [g]) = stepS r f (foldS r f l) g := by
  simp [foldS]
/-- How many are alike at the end. -/
def longS (l : List Bool) (g : Bool) : Nat := (l.reverse.takeWhile (· == g)).length
theorem longS_nil (g : Bool) : longS [] g = 0 := rfl
theorem longS_snoc (l : List Bool) (x g : Bool) : longS (l ++ [x]) g = if x = g then longS l g + 1 else 0 := by
  unfold longS
  rw [List.reverse_append]
  simp only [List.reverse_cons, List.reverse_nil, List.nil_append, List.singleton_append, List.takeWhile_cons]
  by_cases h : x = g
  · simp [h]
  · have : (x == g) = false := by simpa using h
    simp [h, this]
theorem longS_le (l : List Bool) (g : Bool) : longS l g ≤ l.length := by
  unfold longS
  have := (List.takeWhile_sublist (p := (· == g)) (l := l.reverse)).length_le
  simpa using this
theorem foldS_long (r f : Int) (l : List Bool) : (foldS r f l).2.1 = longS l true ∧ (foldS r f l).2.2 = longS l false := by
  induction l using snoc_ind with
  | h0 => exact ⟨rfl, rfl⟩
  | h1 l x ih =>
    rw [foldS_snoc, longS_snoc, longS_snoc, ← ih.1, ← ih.2]
    cases x <;> simp [stepS]

/-- So many alike ones stand in a row from a place on. -/
def rowS (l : List Bool) (at_ n : Nat) (g : Bool) : Prop := at_ + n ≤ l.length ∧ ∀ k, k < n → l[at_ + k]? = some g
/-- Somewhere so many good ones, and nowhere behind them so many bad ones. -/
def upS (l : List Bool) (r f : Nat) : Prop := ∃ i, rowS l i r true ∧ ∀ j, i + r ≤ j → ¬ rowS l j f false

theorem longS_row (g : Bool) : ∀ (l : List Bool) (n at_ : Nat), at_ + n = l.length → (rowS l at_ n g ↔ n ≤ longS l g) := by
  intro l
  induction l using snoc_ind with
  | h0 =>
    intro n a h
    simp at h
    obtain ⟨rfl, rfl⟩ := h
    simp [rowS]
  | h1 l x ih =>
    intro n a h
    simp at h
    cases n with
    | zero => simp [rowS]; omega
    | succ n =>
      have ha : a + n = l.length := by omega
      have hi := ih n a ha
      rw [longS_snoc]
      have hlast : (l ++ [x])[a + n]? = some x := by rw [ha]; simp
      by_cases hx : x = g
      · rw [if_pos hx]
        constructor
        · rintro ⟨-, h2⟩
          have : rowS l a n g := ⟨by omega, fun k hk => by
            have := h2 k (by omega)
            rwa [List.getElem?_append_left (by omega)] at this⟩
          have := hi.1 this
          omega
        · intro hn
          have := hi.2 (by omega)
          refine ⟨by simp; omega, fun k hk => ?_⟩
          by_cases hk' : k = n
          · subst hk'; rw [hlast, hx]
          · rw [List.getElem?_append_left (by omega)]
            exact this.2 k (by omega)
      · rw [if_neg hx]
        constructor
        · rintro ⟨-, h2⟩
          have := h2 n (by omega)
          rw [hlast] at this
          injection this with this
          exact absurd this hx
        · intro hn; omega

theorem rowS_old {l : List Bool} {x : Bool} {a n : Nat} {g : Bool} (h : a + n ≤ l.length) : rowS (l ++ [x]) a n g ↔ rowS l a n g := by
  constructor
  · rintro ⟨-, h2⟩
    exact ⟨h, fun k hk => by have := h2 k hk; rwa [List.getElem?_append_left (by omega)] at this⟩
  · rintro ⟨-, h2⟩
    exact ⟨by simp; omega, fun k hk => by rw [List.getElem?_append_left (by omega)]; exact h2 k hk⟩

theorem upS_snoc_good (l : List Bool) (r f : Nat) (_hr : 1 ≤ r) (hf : 1 ≤ f) : upS (l ++ [true]) r f ↔ (r ≤ longS (l ++ [true]) true ∨ upS l r f) := by
  have hbad : ∀ j, rowS (l ++ [true]) j f false → j + f ≤ l.length := by
    rintro j ⟨h1, h2⟩
    simp at h1
    rcases Nat.lt_or_ge l.length (j + f) with h | h
    · have := h2 (f - 1) (by omega)
      rw [show j + (f - 1) = l.length by omega] at this
      simp at this
    · exact h
  constructor
  · rintro ⟨i, hi, hj⟩
    have h1 := hi.1
    simp at h1
    by_cases he : i + r = l.length + 1
    · left
      exact (longS_row true (l ++ [true]) r i (by simpa using he)).1 hi
    · right
      refine ⟨i, (rowS_old (by omega)).1 hi, fun j hij hrow => hj j hij ((rowS_old hrow.1).2 hrow)⟩
  · rintro (h | ⟨i, hi, hj⟩)
    · have hle := longS_le (l ++ [true]) true
      simp at hle
      refine ⟨l.length + 1 - r, (longS_row true (l ++ [true]) r _ (by simp; omega)).2 h, fun j hij hrow => ?_⟩
      have := hbad j hrow
      omega
    · refine ⟨i, (rowS_old hi.1).2 hi, fun j hij hrow => hj j hij ((rowS_old (hbad j hrow)).1 hrow)⟩

theorem upS_snoc_bad (l : List Bool) (r f : Nat) (hr : 1 ≤ r) (hf : 1 ≤ f) : upS (l ++ [false]) r f ↔ (¬ f ≤ longS (l ++ [false]) false ∧ upS l r f) := by
  have hgood : ∀ i, rowS (l ++ [false]) i r true → i + r ≤ l.length := by
    rintro j ⟨h1, h2⟩
    simp at h1
    rcases Nat.lt_or_ge l.length (j + r) with h | h
    · have := h2 (r - 1) (by omega)
      rw [show j + (r - 1) = l.length by omega] at this
      simp at this
    · exact h
  constructor
  · rintro ⟨i, hi, hj⟩
    have h1 := hgood i hi
    refine ⟨fun hlong => ?_, i, (rowS_old h1).1 hi, fun j hij hrow => hj j hij ((rowS_old hrow.1).2 hrow)⟩
    have hle := longS_le (l ++ [false]) false
    simp at hle
    have hrow := (longS_row false (l ++ [false]) f (l.length + 1 - f) (by simp; omega)).2 hlong
    by_cases hb : i + r ≤ l.length + 1 - f
    · exact hj _ hb hrow
    · have e1 := hi.2 (r - 1) (by omega)
      have e2 := hrow.2 (i + (r - 1) - (l.length + 1 - f)) (by omega)
      rw [show l.length + 1 - f + (i + (r - 1) - (l.length + 1 - f)) = i + (r - 1) by omega, e1] at e2
      simp at e2
  · rintro ⟨hn, i, hi, hj⟩
    refine ⟨i, (rowS_old hi.1).2 hi, fun j hij hrow => ?_⟩
    have h1 := hrow.1
    simp at h1
    by_cases he : j + f = l.length + 1
    · exact hn ((longS_row false (l ++ [false]) f j (by simpa using he)).1 hrow)
    · exact hj j hij ((rowS_old (by omega)).1 hrow)

theorem foldS_up (r f : Nat) (hr : 1 ≤ r) (hf : 1 ≤ f) (l : List Bool) : (foldS r f l).1 = true ↔ upS l r f := by
  induction l using snoc_ind with
  | h0 =>
    constructor
    · intro h; cases h
    · rintro ⟨i, h, -⟩
      have := h.1
      simp at this
      omega
  | h1 l x ih =>
    have h1 := (foldS_long r f l).1
    have h2 := (foldS_long r f l).2
    rw [foldS_snoc]
    cases x
    · rw [upS_snoc_bad l r f hr hf, longS_snoc, if_pos rfl, ← h2, ← ih]
      simp only [stepS]
      by_cases h : f ≤ (foldS r f l).2.2 + 1
      · have h' : (f : Int) ≤ (((foldS r f l).2.2 + 1 : Nat) : Int) := by omega
        simp [h]
        omega
      · have h' : ¬ (f : Int) ≤ (((foldS r f l).2.2 + 1 : Nat) : Int) := by omega
        simp [h]
        omega
    · rw [upS_snoc_good l r f hr hf, longS_snoc, if_pos rfl, ← h1, ← ih]
      simp only [stepS]
      by_cases h : r ≤ (foldS r f l).2.1 + 1
      · have h' : (r : Int) ≤ (((foldS r f l).2.1 + 1 : Nat) : Int) := by omega
        simp [h]
        omega
      · have h' : ¬ (r : Int) ≤ (((foldS r f l).2.1 + 1 : Nat) : Int) := by omega
        simp [h]
        omega
end Go.Proofs.Ytbcofkiefompgaa
