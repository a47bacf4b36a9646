/- Contracts of package icmp's makers and of the reference's. -/
import Derived.Test.YtkoamiefombilaaIcmp1
namespace Go.Proofs.Ytkoamiefombilaa
open Go.RowKit

theorem iabout_any (ty co : UInt8) (re : UInt32) (v : Value) (hv : ∃ A n c, v = .slice A n c) (w : World) :
    Calls Try.prog 44 #[.agg #[.int .u8 (ty.toNat : Int), .int .u8 (co.toNat : Int), .int .u32 (re.toNat : Int), v]] w fun e w' =>
      e = .returned (.bool (decide (ty.toNat = 3 ∨ ty.toNat = 11 ∨ ty.toNat = 12))) ∧ Below w.heap.size w w' := by
  obtain ⟨A, n, c, rfl⟩ := hv
  by_cases h3 : ty.toNat = 3
  · have k3 : ((ty.toNat : Int) == 3) = true := by rw [h3]; rfl
    rw [decide_eq_true (Or.inl h3)]
    clear h3
    go_enter Try.func44, Try.ntmps44
    go_wp2_with fail
    go_ret
    exact ⟨rfl, bnextA (Below.refl _ _) _⟩
  · have k3 : ((ty.toNat : Int) == 3) = false := by simp; omega
    by_cases h11 : ty.toNat = 11
    · have k11 : ((ty.toNat : Int) == 11) = true := by rw [h11]; rfl
      rw [decide_eq_true (Or.inr (Or.inl h11))]
      clear h3 h11
      go_enter Try.func44, Try.ntmps44
      go_wp2_with fail
      go_ret
      exact ⟨rfl, bnextA (Below.refl _ _) _⟩
    · have k11 : ((ty.toNat : Int) == 11) = false := by simp; omega
      have hd : (decide (ty.toNat = 3 ∨ ty.toNat = 11 ∨ ty.toNat = 12)) = ((ty.toNat : Int) == 12) := by
        rw [Bool.eq_iff_iff]; simp; omega
      rw [hd]
      clear h3 h11 hd
      go_enter Try.func44, Try.ntmps44
      go_wp2_with fail
      go_ret
      exact ⟨rfl, bnextA (Below.refl _ _) _⟩

theorem ifailed_any (ty co : UInt8) (re : UInt32) (A : Option Addr) (c : Nat) (xs : List UInt8) (w : World) (hr : Rd bv w w.heap.size A c xs) (hl : xs.length ≤ 1000000) :
    Calls Try.prog 17 #[.int .u8 (ty.toNat : Int), .int .u8 (co.toNat : Int), .int .u32 (re.toNat : Int), .slice A xs.length c] w fun e w' => ∃ L A1 c1, e = .returned (.agg #[.int .u8 (ty.toNat : Int), .int .u8 (co.toNat : Int), .int .u32 (re.toNat : Int), .slice A1 L.length c1]) ∧ Hid (L = xs.take 28) ∧ Rd bv w' w'.heap.size A1 c1 L ∧ Below w.heap.size w w' := by
  have hlc := hr.len
  have hcc := hr.cap
  go_enter Try.func17, Try.ntmps17
  go_wp2_with fail
  have hcut := cut_yes A c xs 0 (min xs.length 28) _ (hr.nextA (.cells #[.int .u8 0, .int .u8 0, .int .u32 0, .slice none 0 0] 25)) (by omega) hl
  rw [List.drop_zero, show xs.take (min xs.length 28) = xs.take 28 by rw [List.take_eq_take_iff]; omega, show ((min xs.length 28 : Nat) : Int) = min (xs.length : Int) 28 by omega] at hcut
  refine hcut.mono ?_
  clear hcut
  rintro e w1 ⟨v1, rfl, hown, hZ⟩
  obtain ⟨L1, A1, c1, HL1, rfl, -⟩ := hown.rdv
  obtain ⟨c0, c1', c2, c3, f0, f1, f2, f3⟩ := blk4 rfl hZ
  have hB := bnext (bnextA (Below.refl w.heap.size w) _) hZ
  have hO := Lib.hid hown
  clear hown hZ
  go_wp2_with fail
  simp [bodyPost, results, Try.results17, go_sem, *]
  rw [← HL1.out] at hO
  exact ⟨L1, A1, c1, ⟨rfl, rfl, rfl⟩, HL1, by simpa using (hO.out.set4 (g := w.heap.size) (by simp) _ _ _ _).rdS, bset4 hB (Nat.le_refl _) _ _ _ _⟩

end Go.Proofs.Ytkoamiefombilaa
