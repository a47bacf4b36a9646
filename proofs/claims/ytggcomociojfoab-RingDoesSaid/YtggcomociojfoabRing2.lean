/- Contract of ring.New, and the statement's lives; the statement on a ring that nobody made. -/
import Derived.Test.YtggcomociojfoabRing1
import Derived.Test.YtggcomociojfoabNum
namespace Go.Proofs.Ytggcomociojfoab
open Go.RowKit

theorem info_i64 : (Try.prog.info? 3).map (fun i => (i.zero, i.size, i.bytes)) = some (some (.int .i64 0), 1, 8) := by kernel_rfl
theorem rnew_fin (w : World) (N : Nat) (h1 : 1 ≤ N) (h2 : N ≤ 64) (hb : Blk (w.alloc (.cells (madeCells (Value.int .i64 0).cells (N * 1)) 3)) w.heap.size ((List.replicate N (0 : Int)).map iv) 3) :
    Rg ((w.alloc (.cells (madeCells (Value.int .i64 0).cells (N * 1)) 3)).alloc (.cells #[.slice (some ⟨w.heap.size, 0, none⟩) N N, .int .i64 0, .int .i64 0, .int .i64 0] 88)) (w.heap.size + 1) w.heap.size N (List.replicate N 0) 0 0 0 := by
  refine ⟨?_, hb.alloc _, by omega, by simp, h1, h2, by omega, by omega⟩
  have := Blk.new (w.alloc (.cells (madeCells (Value.int .i64 0).cells (N * 1)) 3)) #[.slice (some ⟨w.heap.size, 0, none⟩) N N, .int .i64 0, .int .i64 0, .int .i64 0] 88
  simpa using this
theorem rnew_lo (m : Int) (hm : m < 1) (w : World) : Calls Try.prog 18 #[.int .i64 m] w fun e w' => e = .returned (.pointer (some ⟨w.heap.size + 1, 0, none⟩)) ∧ Below w.heap.size w w' ∧ Rg w' (w.heap.size + 1) w.heap.size 1 (List.replicate 1 0) 0 0 0 := by
  obtain ⟨i0, hi0, hz0, hz1, hz2⟩ := info_parts info_i64
  go_enter Try.func18, Try.ntmps18
  go_wp2_with (at_make; go_loud (refine wpList_make_blk _ rfl _ _ _ rfl 3 i0 Try.underlying61 hi0 hz0 hz1 hz2 _ _ 1 rfl rfl rfl rfl (by omega) ?_); intro hbk)
  go_ret
  exact ⟨rfl, bnextA (bnextA (Below.refl _ _) _) _, rnew_fin w 1 (by omega) (by omega) hbk⟩
theorem rnew_hi (m : Int) (h1 : ¬ m < 1) (hm : 64 < m) (w : World) : Calls Try.prog 18 #[.int .i64 m] w fun e w' => e = .returned (.pointer (some ⟨w.heap.size + 1, 0, none⟩)) ∧ Below w.heap.size w w' ∧ Rg w' (w.heap.size + 1) w.heap.size 64 (List.replicate 64 0) 0 0 0 := by
  obtain ⟨i0, hi0, hz0, hz1, hz2⟩ := info_parts info_i64
  go_enter Try.func18, Try.ntmps18
  go_wp2_with (at_make; go_loud (refine wpList_make_blk _ rfl _ _ _ rfl 3 i0 Try.underlying61 hi0 hz0 hz1 hz2 _ _ 64 rfl rfl rfl rfl (by omega) ?_); intro hbk)
  go_ret
  exact ⟨rfl, bnextA (bnextA (Below.refl _ _) _) _, rnew_fin w 64 (by omega) (by omega) hbk⟩
theorem rnew_mid (N : Nat) (h1 : 1 ≤ N) (h2 : N ≤ 64) (w : World) : Calls Try.prog 18 #[.int .i64 N] w fun e w' => e = .returned (.pointer (some ⟨w.heap.size + 1, 0, none⟩)) ∧ Below w.heap.size w w' ∧ Rg w' (w.heap.size + 1) w.heap.size N (List.replicate N 0) 0 0 0 := by
  obtain ⟨i0, hi0, hz0, hz1, hz2⟩ := info_parts info_i64
  go_enter Try.func18, Try.ntmps18
  go_wp2_with (at_make; go_loud (refine wpList_make_blk _ rfl _ _ _ rfl 3 i0 Try.underlying61 hi0 hz0 hz1 hz2 _ _ N rfl rfl rfl rfl (by omega) ?_); intro hbk)
  go_ret
  exact ⟨rfl, bnextA (bnextA (Below.refl _ _) _) _, by
    have hq := rnew_fin w N h1 h2 hbk
    rw [Nat.mul_one] at hq
    exact hq⟩
theorem rnew_any (m : Int) (_hm : -9223372036854775808 ≤ m ∧ m ≤ 9223372036854775807) (w : World) : ∃ N, 1 ≤ N ∧ N ≤ 64 ∧ Calls Try.prog 18 #[.int .i64 m] w fun e w' => e = .returned (.pointer (some ⟨w.heap.size + 1, 0, none⟩)) ∧ Below w.heap.size w w' ∧ Rg w' (w.heap.size + 1) w.heap.size N (List.replicate N 0) 0 0 0 := by
  by_cases h1 : m < 1
  · exact ⟨1, by omega, by omega, rnew_lo m h1 w⟩
  · by_cases h2 : 64 < m
    · exact ⟨64, by omega, by omega, rnew_hi m h1 h2 w⟩
    · obtain ⟨N, rfl⟩ : ∃ N : Nat, m = (N : Int) := ⟨m.toNat, by omega⟩
      exact ⟨N, by omega, by omega, rnew_mid N (by omega) (by omega) w⟩
end Go.Proofs.Ytggcomociojfoab
