/- Contract of the reference's Sum. -/
import Derived.Test.YteodjajjlgekcaaDoorSip4
namespace Go.Proofs.YteodjajjlgekcaaDoor
open Go.RowKit

/-- The eight bytes of a word, the last word's with how many bytes there are. -/
def wbyte (xs : List UInt8) (i j : Nat) : Nat := if i = xs.length / 8 ∧ j = 7 then xs.length % 256 else if 8 * i + j < xs.length then (xs.getD (8 * i + j) 0).toNat else 0
/-- The number of the bytes from j on, the lowest first. -/
def wnum (xs : List UInt8) (i : Nat) : Nat → Nat
  | 0 => 0
  | r + 1 => wnum xs i r * 256 + wbyte xs i (7 - r)
theorem wbyte_lt (xs : List UInt8) (i j : Nat) : wbyte xs i j < 256 := by
  unfold wbyte
  split
  · omega
  · split
    · exact (xs.getD (8 * i + j) 0).toNat_lt
    · omega
theorem wnum_lt (xs : List UInt8) (i : Nat) : ∀ r, wnum xs i r < 256 ^ r
  | 0 => by simp [wnum]
  | r + 1 => by
    have := wnum_lt xs i r
    have := wbyte_lt xs i (7 - r)
    simp only [wnum, Nat.pow_succ]
    omega
theorem wnum8 (xs : List UInt8) (i : Nat) : wnum xs i 8 = wbyte xs i 0 + 256 * (wbyte xs i 1 + 256 * (wbyte xs i 2 + 256 * (wbyte xs i 3 + 256 * (wbyte xs i 4 + 256 * (wbyte xs i 5 + 256 * (wbyte xs i 6 + 256 * wbyte xs i 7)))))) := by
  simp only [wnum, Nat.reduceSub]
  omega
theorem numLE_get : ∀ (l : List UInt8) (n : Nat), l.length = n → n ≤ 8 → numLE l = (l.getD 0 0).toNat + 256 * ((l.getD 1 0).toNat + 256 * ((l.getD 2 0).toNat + 256 * ((l.getD 3 0).toNat + 256 * ((l.getD 4 0).toNat + 256 * ((l.getD 5 0).toNat + 256 * ((l.getD 6 0).toNat + 256 * (l.getD 7 0).toNat)))))) := by
  intro l n h hn
  match l, h with
  | [], _ => simp [numLE]
  | [a], _ => simp [numLE]
  | [a, b], _ => simp [numLE]
  | [a, b, c], _ => simp [numLE]
  | [a, b, c, d], _ => simp [numLE]
  | [a, b, c, d, e], _ => simp [numLE]
  | [a, b, c, d, e, f], _ => simp [numLE]
  | [a, b, c, d, e, f, g], _ => simp [numLE]
  | [a, b, c, d, e, f, g, k], _ => simp [numLE]
  | a :: b :: c :: d :: e :: f :: g :: k :: p :: r, h => simp at h; omega
theorem getD_drop8 (xs : List UInt8) (i j : Nat) : (xs.drop (8 * i)).getD j 0 = xs.getD (8 * i + j) 0 := by simp [List.getD_eq_getElem?_getD]
theorem wnum_word (xs : List UInt8) (i : Nat) (hi : i < xs.length / 8) : wnum xs i 8 = numLE ((xs.drop (8 * i)).take 8) := by
  have hb : ∀ j, j < 8 → wbyte xs i j = (((xs.drop (8 * i)).take 8).getD j 0).toNat := by
    intro j hj
    unfold wbyte
    rw [if_neg (by omega), if_pos (by omega)]
    rw [show ((xs.drop (8 * i)).take 8).getD j 0 = xs.getD (8 * i + j) 0 by simp [List.getD_eq_getElem?_getD, hj]]
  rw [wnum8, numLE_get _ 8 (by simp; omega) (by omega), hb 0 (by omega), hb 1 (by omega), hb 2 (by omega), hb 3 (by omega), hb 4 (by omega), hb 5 (by omega), hb 6 (by omega), hb 7 (by omega)]
theorem wnum_last (xs : List UInt8) : wnum xs (xs.length / 8) 8 = lastW xs := by
  have hb : ∀ j, j < 7 → wbyte xs (xs.length / 8) j = ((xs.drop (8 * (xs.length / 8))).getD j 0).toNat := by
    intro j hj
    unfold wbyte
    rw [if_neg (by omega), getD_drop8]
    split
    · rfl
    · rw [List.getD_eq_getElem?_getD, List.getElem?_eq_none (by omega)]
      rfl
  have h7 : wbyte xs (xs.length / 8) 7 = xs.length % 256 := by
    unfold wbyte
    rw [if_pos ⟨rfl, rfl⟩]
  have h70 : ((xs.drop (8 * (xs.length / 8))).getD 7 0).toNat = 0 := by
    rw [List.getD_eq_getElem?_getD, List.getElem?_eq_none (by simp; omega)]
    rfl
  rw [wnum8, lastW, numLE_get (xs.drop (8 * (xs.length / 8))) _ rfl (by simp; omega), h70, h7, hb 0 (by omega), hb 1 (by omega), hb 2 (by omega), hb 3 (by omega), hb 4 (by omega), hb 5 (by omega), hb 6 (by omega)]
  omega
end Go.Proofs.YteodjajjlgekcaaDoor
