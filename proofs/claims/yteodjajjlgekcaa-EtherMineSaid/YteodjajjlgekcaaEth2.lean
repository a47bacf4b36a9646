/- Contracts of the reference's answers for package ether: Mac and Put. -/
import Derived.Test.YteodjajjlgekcaaEth1
import Derived.Test.YteodjajjlgekcaaInv
namespace Go.Proofs.Yteodjajjlgekcaa
open Go.RowKit

set_option maxRecDepth 10000 in
theorem rmac_any (m0 m1 m2 m3 m4 m5 : UInt8) (w : World) :
    Calls Try.prog 86 #[.agg #[.int .u8 (m0.toNat : Int), .int .u8 (m1.toNat : Int), .int .u8 (m2.toNat : Int), .int .u8 (m3.toNat : Int), .int .u8 (m4.toNat : Int), .int .u8 (m5.toNat : Int)]] w fun e w' => ∃ L A c, e = .returned (.slice A L.length c) ∧ Hid (L = [m0, m1, m2, m3, m4, m5]) ∧ Rd bv w' w'.heap.size A c L ∧ Below w.heap.size w w' := by
  obtain ⟨i0, hi0, hz0, hz1, hz2⟩ := info_parts info_u8
  obtain ⟨W1, hW1⟩ : ∃ W1, W1 = w.alloc (.cells #[.int .u8 (m0.toNat : Int), .int .u8 (m1.toNat : Int), .int .u8 (m2.toNat : Int), .int .u8 (m3.toNat : Int), .int .u8 (m4.toNat : Int), .int .u8 (m5.toNat : Int)] 49) := ⟨_, rfl⟩
  have hB1 : Below w.heap.size w W1 := by subst hW1; exact bnextA (Below.refl _ _) _
  have hcell : ∀ j (hj : j < 6), W1.cell? ⟨w.heap.size, j, none⟩ = some (bv ([m0, m1, m2, m3, m4, m5][j])) := by
    subst hW1
    intro j hj
    match j, hj with | 0, _ | 1, _ | 2, _ | 3, _ | 4, _ | 5, _ => simp [bv]
  have hlt : w.heap.size < W1.heap.size := by subst hW1; simp
  have HSZ := Lib.hid (show W1.heap.size = w.heap.size + 1 by subst hW1; simp)
  have hml : ([m0, m1, m2, m3, m4, m5] : List UInt8).length = 6 := rfl
  obtain ⟨ms, hms⟩ : ∃ ms, [m0, m1, m2, m3, m4, m5] = ms := ⟨_, rfl⟩
  rw [hms] at hml ⊢
  replace hcell : ∀ j (hj : j < ms.length), W1.cell? ⟨w.heap.size, j, none⟩ = some (.int .u8 (ms[j].toNat : Int)) := by
    subst hms; exact hcell
  clear hms
  have HML := Lib.hid hml
  have hown0 : Own bv (W1.alloc (.cells #[] 5)) W1.heap.size 5 (.slice (some ⟨W1.heap.size, 0, none⟩) 0 0) [] := World.ownsRow_lit W1 #[] 0 (Nat.le_refl _) (by unfold maxLen; omega) rfl
  have hb0 : Below W1.heap.size W1 (W1.alloc (.cells #[] 5)) := (Below.refl _ _).alloc (Nat.le_refl _) _
  have HO0 := Lib.hid hown0
  clear hown0
  go_enter Try.func86, Try.ntmps86
  go_wp2_with fail
  rw [← hW1]
  clear hW1
  go_loopw [3, 4] (fun v i wr => ∃ j : Nat, j ≤ 6 ∧ i = .int .i64 j ∧ Hid (Own bv wr W1.heap.size 5 v (ms.take j)) ∧ Below W1.heap.size W1 wr) (fun _ i _ => 6 - (intOf i).toNat)
  case atStart => exact ⟨0, by omega, rfl, by rw [← HSZ.out]; exact HO0, hb0⟩
  case round =>
    obtain ⟨j, hj, rfl, HO2, hbw⟩ := hrel
    by_cases hlt6 : j < 6
    · have c0 := (hbw.cell (p := ⟨w.heap.size, j, none⟩) hlt).trans (hcell j (by omega))
      have HT := Lib.hid (take_one ms j (by omega))
      have hlen : (ms.take j).length + 1 ≤ 10 := by simp; omega
      have hszw := hbw.size
      clear hcell HO0
      generalize ms[j] = x at c0 HT
      go_wp2_with (at_builtin; go_loud (refine wpList_append_rd rfl (.tmp 10) (.tmp 14) _ rfl bv W1.heap.size 5 i0 _ 1 Try.underlying22 hi0 hz0 hz1 hz2 rfl bv_one _ _ rfl (HO2.out.alloc _) (wr.heap.size + 1) (some ⟨wr.heap.size, 0, none⟩) 1 [x] rfl (rd_lit wr _ _ [x] rfl (by simp)) (by simp only [List.length_cons, List.length_nil]; omega) (by simp only [List.length_cons, List.length_nil]; omega) (by simp; omega) W1 (hbw.alloc hszw _) ?_); intro v2 w2 hown2 hb2 hnn)
      go_roundw
      case rel => exact ⟨j + 1, by omega, by go_num, by rw [HT.out]; exact hown2, hb2⟩
      case measure => simp [intOf]; omega
    · have : j = 6 := by omega
      subst this
      have hO := HO2.out
      rw [List.take_of_length_le (by omega)] at hO
      obtain ⟨L, A, c, HL, rfl, hr⟩ := hO.rdv
      clear HO2 hO
      go_wp2
      go_ret
      exact ⟨L, A, c, rfl, HL, hr, bnext hB1 hbw⟩

end Go.Proofs.Yteodjajjlgekcaa
