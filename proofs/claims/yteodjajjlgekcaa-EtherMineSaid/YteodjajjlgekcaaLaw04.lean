/- The walks of the statements on package ether. -/
import Derived.Test.YteodjajjlgekcaaEth5
namespace Go.Proofs.Yteodjajjlgekcaa
open Go.RowKit

theorem be16_beN (a b : UInt8) (t : UInt16) (h : beN [a, b] = t.toNat) : be16 t = [a, b] := by
  rw [beN_two] at h
  have ha := a.toNat_lt
  have hb := b.toNat_lt
  simp only [be16, List.cons.injEq, and_true]
  exact ⟨UInt8.toNat_inj.mp (by simp; omega), UInt8.toNat_inj.mp (by simp; omega)⟩
theorem frame_back (xs : List UInt8) (h14 : 14 ≤ xs.length) (t : UInt16) (hT : beN ((xs.drop 12).take 2) = t.toNat) (x0 x1 x2 x3 x4 x5 x6 x7 x8 x9 x10 x11 : UInt8) (hx : xs.take 12 = [x0, x1, x2, x3, x4, x5, x6, x7, x8, x9, x10, x11]) :
    [x0, x1, x2, x3, x4, x5] ++ ([x6, x7, x8, x9, x10, x11] ++ (be16 t ++ xs.drop 14)) = xs := by
  have h2 : be16 t = (xs.drop 12).take 2 := by
    rw [take_two xs 12 (by omega)] at hT ⊢
    exact be16_beN _ _ _ hT
  have h3 : xs.drop 14 = (xs.drop 12).drop 2 := by simp
  rw [h2, h3, List.take_append_drop]
  rw [show [x0, x1, x2, x3, x4, x5] ++ ([x6, x7, x8, x9, x10, x11] ++ xs.drop 12) = [x0, x1, x2, x3, x4, x5, x6, x7, x8, x9, x10, x11] ++ xs.drop 12 from rfl, ← hx, List.take_append_drop]

theorem list12 (l : List UInt8) (h : l.length = 12) : ∃ x0 x1 x2 x3 x4 x5 x6 x7 x8 x9 x10 x11, l = [x0, x1, x2, x3, x4, x5, x6, x7, x8, x9, x10, x11] := by
  match l, h with
  | [x0, x1, x2, x3, x4, x5, x6, x7, x8, x9, x10, x11], _ => exact ⟨x0, x1, x2, x3, x4, x5, x6, x7, x8, x9, x10, x11, rfl⟩
theorem t16 (xs : List UInt8) (h14 : 14 ≤ xs.length) : ∃ t : UInt16, beN ((xs.drop 12).take 2) = t.toNat := by
  rw [take_two xs 12 (by omega), beN_two]
  have h1 := (xs[12]).toNat_lt
  have h2 := (xs[12 + 1]).toNat_lt
  refine ⟨UInt16.ofNat _, (UInt16.toNat_ofNat_of_lt' ?_).symm⟩
  simp only [UInt16.size] at *
  omega

theorem lives04_any (w : World) : Calls Try.prog 27 #[] w fun e w' => e = .returned (.bool true) ∧ Below w.heap.size w w' := by
  have hp := fun (W : World) (A : Option Addr) (c : Nat) (hr : Rd bv W W.heap.size A c [1, 2, 3, 4, 5, 6, 2, 0, 0, 0, 0, 1, 8, 6, 9]) => Lib.hid (eparse_ok A c [1, 2, 3, 4, 5, 6, 2, 0, 0, 0, 0, 1, 8, 6, 9] W hr (by simp) (by simp) 2054 (by simp [beN]) (by omega) 1 2 3 4 5 6 2 0 0 0 0 1 rfl)
  go_enter Try.func27, Try.ntmps27
  go_wp2_with fail
  refine (hp _ _ _ (lit_at w _ [1, 2, 3, 4, 5, 6, 2, 0, 0, 0, 0, 1, 8, 6, 9] rfl _ rfl _ (by simp))).out.mono ?_
  rintro e w1 ⟨L1, A1, c1, rfl, HL1, hr1, hb1⟩
  have hl : L1.length = 1 := by rw [HL1.out]; rfl
  rw [hl]
  clear hp hl
  have hB := bnext (bnextA (Below.refl w.heap.size w) _) hb1
  go_wp2_with fail
  go_ret
  exact ⟨rfl, bnextA hB _⟩

end Go.Proofs.Yteodjajjlgekcaa
