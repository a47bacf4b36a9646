/- Plain arithmetic of the ones sum: pairs of bytes as numbers, and how a number folds. Nothing of the program's own code is named here. -/
import Derived.WalkKit
import Derived.Laws.BitsAllLaws
import Derived.Test.YteodjajjlgekcaaDoorNum
namespace Go.Proofs.YteodjajjlgekcaaDoor
open Go.RowKit

/-- The sum of the numbers that pairs of bytes are; a last one alone counts as the high one. -/
def wsum : List UInt8 → Nat
  | [] => 0
  | [x] => x.toNat * 256
  | x :: y :: r => x.toNat * 256 + y.toNat + wsum r
/-- A number folded: modulo 65535, but 65535 for 0 of what isn't 0. -/
def foldN (n : Nat) : Nat := if n = 0 then 0 else if n % 65535 = 0 then 65535 else n % 65535
def onesN (l : List UInt8) : Nat := foldN (wsum l)

theorem wsum_app : ∀ (a b : List UInt8), a.length % 2 = 0 → wsum (a ++ b) = wsum a + wsum b
  | [], b, _ => by simp [wsum]
  | [x], b, h => by simp at h
  | x :: y :: r, b, h => by
    have := wsum_app r b (by simp at h; omega)
    simp only [List.cons_append, wsum]
    omega
theorem wsum_snoc : ∀ (l : List UInt8) (x : UInt8), wsum (l ++ [x]) = wsum l + (if l.length % 2 = 0 then x.toNat * 256 else x.toNat)
  | [], x => by simp [wsum]
  | [a], x => by simp [wsum]
  | a :: b :: r, x => by
    have := wsum_snoc r x
    have hl : (a :: b :: r).length % 2 = r.length % 2 := by simp only [List.length_cons]; omega
    simp only [List.cons_append, wsum, hl]
    omega
theorem wsum_le : ∀ (l : List UInt8), wsum l ≤ 65535 * l.length
  | [] => by simp [wsum]
  | [x] => by have := x.toNat_lt; simp [wsum]; omega
  | x :: y :: r => by
    have := wsum_le r
    have := x.toNat_lt
    have := y.toNat_lt
    simp only [wsum, List.length_cons]
    omega
theorem wsum_zero : ∀ (l : List UInt8), wsum l = 0 ↔ ∀ x ∈ l, x = 0
  | [] => by simp [wsum]
  | [x] => by
    have h : x.toNat = 0 ↔ x = 0 := ⟨fun h => UInt8.toNat_inj.1 (by simpa using h), fun h => by simp [h]⟩
    simp only [wsum, List.mem_singleton, forall_eq, ← h]
    omega
  | x :: y :: r => by
    have hx : x.toNat = 0 ↔ x = 0 := ⟨fun h => UInt8.toNat_inj.1 (by simpa using h), fun h => by simp [h]⟩
    have hy : y.toNat = 0 ↔ y = 0 := ⟨fun h => UInt8.toNat_inj.1 (by simpa using h), fun h => by simp [h]⟩
    have hr := wsum_zero r
    simp only [wsum, List.forall_mem_cons, ← hx, ← hy, ← hr]
    omega
theorem wrap_u64s (n : Int) : IntKind.u64.wrap n = n % 18446744073709551616 := by simp [IntKind.wrap, IntKind.bits, IntKind.signed]
theorem foldN_le (n : Nat) : foldN n ≤ 65535 := by unfold foldN; (repeat' split) <;> omega
theorem foldN_id {n : Nat} (h : n ≤ 65535) : foldN n = n := by unfold foldN; (repeat' split) <;> omega
theorem foldN_mod (n : Nat) : foldN n % 65535 = n % 65535 := by unfold foldN; (repeat' split) <;> omega
theorem foldN_zero (n : Nat) : foldN n = 0 ↔ n = 0 := by unfold foldN; (repeat' split) <;> omega
theorem foldN_eq {a b : Nat} (h : a % 65535 = b % 65535) (h0 : a = 0 ↔ b = 0) : foldN a = foldN b := by
  unfold foldN; rw [h]; (repeat' split) <;> omega
theorem foldN_step (n : Nat) (h : 65535 < n) : foldN (n / 65536 + n % 65536) = foldN n := by
  apply foldN_eq <;> omega
theorem foldN_full (n : Nat) : foldN n = 65535 ↔ n % 65535 = 0 ∧ n ≠ 0 := by unfold foldN; (repeat' split) <;> omega
theorem foldN_add (a b : Nat) : foldN (foldN a + b) = foldN (a + b) := by
  have h := foldN_mod a
  have h0 := foldN_zero a
  apply foldN_eq <;> omega
/-- One more number, folded at once. -/
theorem foldN_next (n x : Nat) (hn : n ≤ 65535) (hx : x ≤ 65535) : foldN (n + x) = if 65535 < n + x then n + x - 65535 else n + x := by
  unfold foldN; (repeat' split) <;> omega
theorem onesN_le (l : List UInt8) : onesN l ≤ 65535 := foldN_le _

/-- What one step of the fold comes to, in the walk's own spelling. -/
theorem fold_step_val (n : Nat) (hn : n < 18446744073709551616) : IntKind.u64.wrap ((n : Int) / 65536 + bits BinOp.and IntKind.u64 (n : Int) 65535) = ((n / 65536 + n % 65536 : Nat) : Int) := by
  rw [show (65535 : Int) = ((65535 : Nat) : Int) from rfl, u64_and_nat _ _ hn (by omega), nat_mask16]
  rw [wrap_u64s]
  omega

/-- Bytes with another pair at an even place. -/
theorem wsum_pair (a b : List UInt8) (x y : UInt8) (h : a.length % 2 = 0) : wsum (a ++ (x :: y :: b)) = wsum a + (x.toNat * 256 + y.toNat) + wsum b := by
  rw [wsum_app _ _ h]; simp only [wsum]; omega

/-- Bytes with their own sum are right. -/
theorem fills_right (a b : List UInt8) (s : Nat) (h : a.length % 2 = 0) (hs : s = 65535 - onesN (a ++ ([0, 0] ++ b))) : onesN (a ++ ([UInt8.ofNat (s / 256 % 256), UInt8.ofNat (s % 256)] ++ b)) = 65535 := by
  have hle := onesN_le (a ++ ([0, 0] ++ b))
  unfold onesN at hs hle ⊢
  rw [show a ++ ([0, 0] ++ b) = a ++ (0 :: 0 :: b) from rfl, wsum_pair _ _ _ _ h] at hs hle
  rw [show a ++ ([UInt8.ofNat (s / 256 % 256), UInt8.ofNat (s % 256)] ++ b) = a ++ (UInt8.ofNat (s / 256 % 256) :: UInt8.ofNat (s % 256) :: b) from rfl, wsum_pair _ _ _ _ h]
  have e1 : (UInt8.ofNat (s / 256 % 256)).toNat = s / 256 % 256 := by simp
  have e2 : (UInt8.ofNat (s % 256)).toNat = s % 256 := by simp
  rw [e1, e2]
  have h0 : (0 : UInt8).toNat = 0 := rfl
  rw [h0, show wsum a + (0 * 256 + 0) + wsum b = wsum a + wsum b by omega] at hs hle
  have hm := foldN_mod (wsum a + wsum b)
  have hz := foldN_zero (wsum a + wsum b)
  obtain ⟨F, hF⟩ : ∃ F, foldN (wsum a + wsum b) = F := ⟨_, rfl⟩
  rw [hF] at hs hle hm hz
  have hsb : s / 256 % 256 * 256 + s % 256 = s := by omega
  rw [foldN_full, hsb]
  have hassoc : wsum a + s + wsum b = wsum a + wsum b + s := by omega
  rw [hassoc]
  clear hF hassoc
  generalize wsum a + wsum b = W at hm hz ⊢
  by_cases h0 : W = 0
  · omega
  · omega
def nz (l : List UInt8) : Bool := l.any (fun x => x != 0)
theorem nz_snoc (l : List UInt8) (x : UInt8) : nz (l ++ [x]) = (nz l || (x != 0)) := by simp [nz]
theorem nz_val (y : UInt8) : (y != 0) = !((y.toNat : Int) == 0) := by
  have h1 : y.toNat = 0 ↔ y = 0 := ⟨fun h => UInt8.toNat_inj.1 (by simpa using h), fun h => by simp [h]⟩
  rw [Bool.eq_iff_iff]
  simp only [bne_iff_ne, ne_eq, Bool.not_eq_true', beq_eq_false_iff_ne, ← h1]
  omega
theorem nz_wsum (l : List UInt8) : nz l = true ↔ wsum l ≠ 0 := by
  rw [Ne, wsum_zero]
  simp [nz]
/-- A sum that is turned with what it sums up is that of what there is then. -/
theorem keeps_turn (xs : List UInt8) (p next : Nat) (hev : p % 2 = 0) (hk : p + 2 ≤ xs.length) (hn : next < 65536) (now : List UInt8) (hnow : now = xs.take (p) ++ ([UInt8.ofNat (next / 256 % 256), UInt8.ofNat (next % 256)] ++ xs.drop (p + 2))) (hnz : nz now = true) :
    65535 - foldN (65535 - (65535 - onesN xs) + (65535 - beN ((xs.drop (p)).take 2)) + next) = 65535 - onesN now := by
  have hz := (nz_wsum now).1 hnz
  have hx : xs = xs.take (p) ++ (xs[p] :: xs[p+1] :: xs.drop (p + 2)) := by
    conv => lhs; rw [← List.take_append_drop (p) xs]
    rw [List.drop_eq_getElem_cons (by omega : p < xs.length), List.drop_eq_getElem_cons (by omega : p + 1 < xs.length)]
  have hl : (xs.take (p)).length % 2 = 0 := by rw [List.length_take]; omega
  have hw : wsum xs = wsum (xs.take (p)) + ((xs[p]).toNat * 256 + (xs[p+1]).toNat) + wsum (xs.drop (p + 2)) := by
    have := congrArg wsum hx
    rw [wsum_pair _ _ _ _ hl] at this
    exact this
  have hw2 : wsum now = wsum (xs.take (p)) + next + wsum (xs.drop (p + 2)) := by
    rw [hnow, show xs.take (p) ++ ([UInt8.ofNat (next / 256 % 256), UInt8.ofNat (next % 256)] ++ xs.drop (p + 2)) = xs.take (p) ++ (UInt8.ofNat (next / 256 % 256) :: UInt8.ofNat (next % 256) :: xs.drop (p + 2)) from rfl, wsum_pair _ _ _ _ hl]
    have e1 : (UInt8.ofNat (next / 256 % 256)).toNat = next / 256 % 256 := by simp
    have e2 : (UInt8.ofNat (next % 256)).toNat = next % 256 := by simp
    rw [e1, e2]; omega
  rw [take_two xs (p) hk, beN_two]
  have ha := (xs[p]).toNat_lt
  have hb := (xs[p+1]).toNat_lt
  generalize (xs[p]).toNat = a at hw ha ⊢
  generalize (xs[p+1]).toNat = b at hw hb ⊢
  have h1 := foldN_mod (wsum xs)
  have h2 := foldN_zero (wsum xs)
  have h3 := foldN_le (wsum xs)
  unfold onesN
  generalize foldN (wsum xs) = F at h1 h2 h3 ⊢
  congr 1
  apply foldN_eq <;> omega
end Go.Proofs.YteodjajjlgekcaaDoor
