/- Contracts of the reference's answers for package sum, and of the statement's own check. -/
import Derived.Test.YteodjajjlgekcaaSum1
import Derived.Test.YteodjajjlgekcaaRef1
namespace Go.Proofs.Yteodjajjlgekcaa
open Go.RowKit

theorem rones_step (l : List UInt8) (j : Nat) (hj : j % 2 = 0) (h : j < l.length) :
    onesN (l.take (j + 2)) = foldN (onesN (l.take j) + ((l[j]).toNat * 256 + (if h2 : j + 1 < l.length then (l[j+1]).toNat else 0))) := by
  unfold onesN
  rw [foldN_add]
  congr 1
  by_cases h2 : j + 1 < l.length
  · rw [dif_pos h2, take_one l (j + 1) h2, take_one l j h, List.append_assoc, List.singleton_append]
    rw [wsum_app _ _ (by rw [List.length_take]; omega)]
    simp [wsum]
  · rw [dif_neg h2, List.take_of_length_le (by omega)]
    have hl : l = l.take j ++ [l[j]] := by
      rw [← take_one l j h, List.take_of_length_le (by omega)]
    have h3 : wsum l = wsum (l.take j ++ [l[j]]) := congrArg wsum hl
    rw [h3, wsum_app _ _ (by rw [List.length_take]; omega)]
    simp [wsum]

theorem rones_any (A : Option Addr) (c : Nat) (l : List UInt8) (N : Nat) (w : World) (B : Nat) (hr : Rd bv w B A c l) (hl : l.length ≤ 100000000) (hN : onesN l = N) :
    Calls Try.prog 73 #[.slice A l.length c] w fun e w' => e = .returned (.int .i64 (N : Nat)) ∧ w = w' := by
  have hlc := hr.len
  have hcc := hr.cap
  have HN := Lib.hid hN
  clear hN
  go_enter Try.func73, Try.ntmps73
  go_wp2
  go_loop [3, 4] (fun x i => ∃ j : Nat, j ≤ l.length + 1 ∧ j % 2 = 0 ∧ i = .int .i64 j ∧ x = .int .i64 (onesN (l.take j) : Nat)) (fun _ i => l.length + 1 - (intOf i).toNat)
  case atStart => exact ⟨0, by omega, rfl, rfl, rfl⟩
  case round =>
    obtain ⟨j, hj, hpar, rfl, rfl⟩ := hrel
    by_cases hlt : j < l.length
    · obtain ⟨b, off, rfl, hB, hcell⟩ := byt_at hr (k := j) hlt
      have c0 := hcell j hlt
      have hS := rones_step l j hpar hlt
      have hle := onesN_le (l.take j)
      have hx := (l[j]).toNat_lt
      generalize onesN (l.take j) = m at hS hle
      by_cases h2 : j + 1 < l.length
      · have c1 := hcell (j + 1) h2
        rw [dif_pos h2] at hS
        have hy := (l[j+1]).toNat_lt
        generalize l[j] = x at c0 hS hx
        generalize l[j+1] = y at c1 hS hy
        rw [foldN_next _ _ hle (by omega)] at hS
        clear hcell hr
        by_cases hbig : 65535 < m + (x.toNat * 256 + y.toNat)
        · rw [if_pos hbig] at hS
          have HS := Lib.hid hS
          clear hS
          go_wp2
          go_round
          case rel => exact ⟨j + 2, by omega, by omega, by go_num, by rw [HS.out] <;> (congr 1 <;> omega)⟩
          case measure => simp [intOf]; omega
        · rw [if_neg hbig] at hS
          have HS := Lib.hid hS
          clear hS
          go_wp2
          go_round
          case rel => exact ⟨j + 2, by omega, by omega, by go_num, by rw [HS.out] <;> (congr 1 <;> omega)⟩
          case measure => simp [intOf]; omega
      · rw [dif_neg h2] at hS
        generalize l[j] = x at c0 hS hx
        simp only [Nat.add_zero] at hS
        rw [foldN_next _ _ hle (by omega)] at hS
        clear hcell hr
        by_cases hbig : 65535 < m + x.toNat * 256
        · rw [if_pos hbig] at hS
          have HS := Lib.hid hS
          clear hS
          go_wp2
          go_round
          case rel => exact ⟨j + 2, by omega, by omega, by go_num, by rw [HS.out] <;> (congr 1 <;> omega)⟩
          case measure => simp [intOf]; omega
        · rw [if_neg hbig] at hS
          have HS := Lib.hid hS
          clear hS
          go_wp2
          go_round
          case rel => exact ⟨j + 2, by omega, by omega, by go_num, by rw [HS.out] <;> (congr 1 <;> omega)⟩
          case measure => simp [intOf]; omega
    · have hN3 : onesN (l.take j) = N := by rw [List.take_of_length_le (show l.length ≤ j by omega)]; exact HN.out
      rw [hN3]
      clear hr hN3 HN
      go_wp2
      go_ret
      exact ⟨rfl, rfl⟩

theorem lives02_fold (W : World) : Calls Try.prog 95 #[.int .u64 65536] W fun e w' => e = .returned (.int .u16 1) ∧ W = w' := by
  have h2 : foldN 65536 = 1 := by simp [foldN]
  have hf := fold_any 65536 W (by omega)
  rw [h2] at hf
  exact hf

end Go.Proofs.Yteodjajjlgekcaa
