/- The law's lives for package recv. -/
import Derived.Test.YtkoamiefombilaaRecv1
namespace Go.Proofs.Ytkoamiefombilaa
open Go.RowKit

theorem eparse_short2 (A : Option Addr) (c n : Nat) (w : World) (_hlc : n ≤ c) (_hcc : c ≤ 9223372036854775807) (h8 : n < 14) :
    Calls Try.prog 80 #[.slice A n c] w fun e w' => e = .returned (.tuple #[.agg #[.int .u8 0, .int .u8 0, .int .u8 0, .int .u8 0, .int .u8 0, .int .u8 0, .int .u8 0, .int .u8 0, .int .u8 0, .int .u8 0, .int .u8 0, .int .u8 0, .int .u16 0, .slice none 0 0], .int .i64 4]) ∧ Below w.heap.size w w' := by
  go_enter Try.func80, Try.ntmps80
  go_wp2_with fail
  refine (cut_no _ _ _ _ _ _ (by omega) (by omega) (by omega)).mono ?_
  rintro e w1 ⟨rfl, rfl⟩
  go_wp2_with fail
  simp [bodyPost, results, Try.results80, go_sem]
  exact bnextA (Below.refl _ _) _
theorem recvof_short (cs : Array Value) (A : Option Addr) (c n : Nat) (w : World) (hlc : n ≤ c) (hcc : c ≤ 9223372036854775807) (h8 : n < 14) :
    Calls Try.prog 62 #[.agg cs, .int .i64 0, .slice A n c] w fun e w' => e = .returned (.tuple #[.nilIface, .int .i64 8]) ∧ Below w.heap.size w w' := by
  go_enter Try.func62, Try.ntmps62
  go_wp2_with fail
  refine (eparse_short2 A c n _ hlc hcc h8).mono ?_
  rintro e w1 ⟨rfl, hbel⟩
  have hB := bnext (bnextA (Below.refl w.heap.size w) _) hbel
  clear hbel
  go_wp2_with fail
  go_ret2
  exact ⟨rfl, bnextA hB _⟩
set_option maxHeartbeats 4000000 in
theorem lives26_any (w : World) : Calls Try.prog 20 #[] w fun e w' => e = .returned (.bool true) ∧ Below w.heap.size w w' := by
  obtain ⟨i0, hi0, hz0, hz1, hz2⟩ := info_parts info_u8
  go_enter Try.func20, Try.ntmps20
  go_wp2_with (at_make; go_loud (refine wpList_make_full _ rfl _ _ _ rfl w.heap.size 5 i0 _ 1 Try.underlying23 hi0 hz0 hz1 _ _ _ _ 13 rfl rfl rfl rfl (by rw [hz2]; omega) (by unfold maxLen; omega) (Nat.le_refl _) ?_); intro w1 hown1 hg1)
  have hB : Below w.heap.size w w1 := (Below.refl _ _).grown hg1 (Nat.le_refl _) (by simp)
  clear hown1 hg1
  refine (recvof_short _ _ _ _ _ (by omega) (by omega) (by omega)).mono ?_
  rintro e w2 ⟨rfl, hbel⟩
  replace hB := bnext hB hbel
  clear hbel
  go_wp2_with fail
  refine (kind_arp 0 0 0 0 0 0 0 0 0 0 0 0 0 0 0 _).mono ?_
  rintro e w3 ⟨rfl, hbel⟩
  replace hB := bnext hB hbel
  clear hbel
  go_wp2_with fail
  refine (kind_nil _).mono ?_
  rintro e w4 ⟨rfl, hbel⟩
  replace hB := bnext hB hbel
  clear hbel
  go_wp2_with fail
  go_ret
  exact ⟨rfl, hB⟩
end Go.Proofs.Ytkoamiefombilaa
