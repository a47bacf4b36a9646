/- Contracts of bytes.Compare and flow.Compare; the walk of the statement on the order of flows. -/
import Derived.Test.YteodjajjlgekcaaDoorFlow3
import Derived.Test.YteodjajjlgekcaaDoorLaw11b
import Derived.Lib.BytesEntry
import Derived.Laws.Externs
namespace Go.Proofs.YteodjajjlgekcaaDoor
open Go.RowKit

def fb (s d : UInt32) (p q : UInt16) (r : UInt8) : List UInt8 := puts32 [s, d] ++ (puts16 [p, q] ++ [r])
theorem cmp_anti : ∀ a b : List UInt8, Lib.compareBytes b a = - Lib.compareBytes a b
  | [], [] => rfl
  | [], _ :: _ => rfl
  | _ :: _, [] => rfl
  | x :: a, y :: b => by
    have ih := cmp_anti a b
    simp only [Lib.compareBytes, UInt8.lt_iff_toNat_lt]
    by_cases h1 : x.toNat < y.toNat
    · rw [if_pos h1, if_neg (by omega), if_pos h1]; rfl
    · by_cases h2 : y.toNat < x.toNat
      · simp only [if_neg h1, if_pos h2]
      · rw [if_neg h1, if_neg h2, if_neg h2, if_neg h1]; exact ih
theorem cmp_trans : ∀ a b c : List UInt8, Lib.compareBytes a b ≤ 0 → Lib.compareBytes b c ≤ 0 → Lib.compareBytes a c ≤ 0 ∧ (Lib.compareBytes a b < 0 → Lib.compareBytes a c < 0)
  | [], [], [] => by simp [Lib.compareBytes]
  | [], [], _ :: _ => by simp [Lib.compareBytes]
  | [], _ :: _, [] => by simp [Lib.compareBytes]
  | [], _ :: _, _ :: _ => by simp [Lib.compareBytes]
  | _ :: _, [], [] => by simp [Lib.compareBytes]
  | _ :: _, [], _ :: _ => by simp [Lib.compareBytes]
  | _ :: _, _ :: _, [] => by simp [Lib.compareBytes]
  | x :: a, y :: b, z :: c => by
    have ih := cmp_trans a b c
    simp only [Lib.compareBytes, UInt8.lt_iff_toNat_lt]
    by_cases h1 : x.toNat < y.toNat
    · by_cases h3 : y.toNat < z.toNat
      · rw [if_pos h1, if_pos h3, if_pos (by omega : x.toNat < z.toNat)]; simp
      · by_cases h4 : z.toNat < y.toNat
        · rw [if_pos h1, if_neg h3, if_pos h4]; simp
        · rw [if_pos h1, if_neg h3, if_neg h4, if_pos (by omega : x.toNat < z.toNat)]; simp
    · by_cases h2 : y.toNat < x.toNat
      · rw [if_neg h1, if_pos h2]; simp
      · rw [if_neg h1, if_neg h2]
        by_cases h3 : y.toNat < z.toNat
        · rw [if_pos h3, if_pos (by omega : x.toNat < z.toNat)]; simp
        · by_cases h4 : z.toNat < y.toNat
          · rw [if_neg h3, if_pos h4]; simp
          · rw [if_neg h3, if_neg h4, if_neg (by omega : ¬ x.toNat < z.toNat), if_neg (by omega : ¬ z.toNat < x.toNat)]
            exact ih
theorem cmp_bd : ∀ a b : List UInt8, -1 ≤ Lib.compareBytes a b ∧ Lib.compareBytes a b ≤ 1
  | [], [] => by simp [Lib.compareBytes]
  | [], _ :: _ => by simp [Lib.compareBytes]
  | _ :: _, [] => by simp [Lib.compareBytes]
  | x :: a, y :: b => by
    have ih := cmp_bd a b
    simp only [Lib.compareBytes]
    split
    · simp
    · split
      · simp
      · exact ih
theorem load_rd {P : Program} {B : Nat} {A : Option Addr} {c : Nat} {xs : List UInt8} {w : World} (h : Rd bv w B A c xs) : (Extern.Bytes.bytesOf (.slice A xs.length c)).run P w = .ok ⟨xs.toArray⟩ w := by
  cases hx : xs with
  | nil =>
    cases A with
    | none => rfl
    | some a => simp [Extern.Bytes.bytesOf, Extern.Bytes.loadBytes]; rfl
  | cons x l =>
    obtain ⟨b, off, rfl, -, hc⟩ := h.at_ (k := 0) (by rw [hx]; simp)
    have := Lib.run_loadBytesX (P := P) w (xs.map fun x => (x.toNat : Int)) ⟨b, off, none⟩ .empty (fun j y hj => by
      rw [List.getElem?_map] at hj
      cases hjx : xs[j]? with
      | none => rw [hjx] at hj; cases hj
      | some z =>
        rw [hjx] at hj
        simp only [Option.map_some, Option.some.injEq] at hj
        subst hj
        obtain ⟨hlt, hz⟩ := List.getElem?_eq_some_iff.1 hjx
        have e : (⟨b, off, none⟩ : Addr).add j = ⟨b, off + j, none⟩ := by unfold Addr.add; split <;> simp_all
        rw [e, hc j hlt, hz]
        rfl)
    rw [List.length_map] at this
    rw [← hx]
    show (Extern.Bytes.loadBytes ⟨b, off, none⟩ xs.length .empty).run P w = _
    rw [this]
    congr 1
    apply ByteArray.ext
    simp [Lib.bytesOf]
    refine (List.map_congr_left (g := id) fun y _ => ?_).trans (List.map_id _)
    simp
end Go.Proofs.YteodjajjlgekcaaDoor
