/- Contracts of Under on both sides, and of the law's lives. -/
import Derived.Test.YtiokofpmmlbncabSip6
namespace Go.Proofs.Ytiokofpmmlbncab
open Go.RowKit

theorem wanted_un {o : Oper} {y : Nat → Option Bool} {g : Nat} {b : Bool} (h : o.guard = some (g, b)) (hy : y g = none) : Region.wanted o y = false := by simp [Region.wanted, h, hy]
theorem yielded_un {ops : Array Oper} {u : Nat → Value} {a : Act} {g k : Nat} (hk : (ops[g]?).bind (·.dst) = some k) (hs : slotAt ops.toList k 0 = some g) (n : Nat) (hn : a.tmps.size = n) (hkn : k < n) (hu : u g = undef) : yielded ops (putAll u ops.toList 0 a).tmps g = none := by
  unfold yielded
  rw [hk]
  simp only [Option.bind_some]
  rw [putAll_at _ _ _ _ _ (by omega), hs]
  simp only
  rw [hu]
  rfl
theorem sip_under_0 (lo hi : Nat) (_h1 : lo < 18446744073709551616) (_h2 : hi < 18446744073709551616) (A : Option Addr) (c : Nat) (xs : List UInt8) (n : Int) (hn : n < 1) (w : World) :
    Calls Try.prog 44 #[.agg #[.int .u64 lo, .int .u64 hi], .slice A xs.length c, .int .i64 n] w fun e w' => e = .returned (.int .i64 0) ∧ Below w.heap.size w w' := by
  have hB := bnextA (Below.refl w.heap.size w) (.cells #[.int .u64 lo, .int .u64 hi] 81)
  have hd : decide (n < 1) = true := by simpa using hn
  go_enter Try.func44, Try.ntmps44
  go_wp2_with fail
  go_ret
  exact ⟨rfl, hB⟩
theorem sip_under_1 (lo hi : Nat) (h1 : lo < 18446744073709551616) (h2 : hi < 18446744073709551616) (A : Option Addr) (c : Nat) (xs : List UInt8) (n r : Nat) (hn : 1 ≤ n) (hm : n ≤ 9223372036854775807) (hr : Hid (sipN lo hi xs % n = r)) (w : World) (ha : Rd bv w w.heap.size A c xs) (hl : xs.length ≤ 1000000) :
    Calls Try.prog 44 #[.agg #[.int .u64 lo, .int .u64 hi], .slice A xs.length c, .int .i64 (n : Int)] w fun e w' => e = .returned (.int .i64 (r : Int)) ∧ Below w.heap.size w w' := by
  have hB := bnextA (Below.refl w.heap.size w) (.cells #[.int .u64 lo, .int .u64 hi] 81)
  obtain ⟨z0, z1, -⟩ := (Blk.new w #[.int .u64 lo, .int .u64 hi] 81).get2
  have HC := Lib.hid (sum_sip lo hi h1 h2 A c xs _ (ha.nextA (.cells #[.int .u64 lo, .int .u64 hi] 81)) hl)
  have hw : IntKind.u64.wrap (n : Int) = (n : Int) := by rw [wrap_u64s]; omega
  have hrn : r < n := by rw [← hr.out]; exact Nat.mod_lt _ (by omega)
  have ht : ((sipN lo hi xs : Nat) : Int).tmod (n : Int) = (r : Int) := by rw [Int.tmod_eq_emod_of_nonneg (by omega), ← hr.out]; simp
  have hn0 : ¬ (n : Int) < 1 := by omega
  have hn1 : (n : Int) ≠ 0 := by omega
  generalize sipN lo hi xs = S at *
  go_enter Try.func44, Try.ntmps44
  go_wp2_with fail
  refine HC.out.mono ?_
  rintro e w1 ⟨rfl, hb⟩
  replace hB := bnext hB hb
  go_wp2_with fail
  go_ret
  exact ⟨rfl, hB⟩
theorem linkboyref13_under_0 (lo hi : Nat) (_h1 : lo < 18446744073709551616) (_h2 : hi < 18446744073709551616) (A : Option Addr) (c : Nat) (xs : List UInt8) (n : Int) (hn : n < 1) (w : World) :
    Calls Try.prog 47 #[.agg #[.int .u64 lo, .int .u64 hi], .slice A xs.length c, .int .i64 n] w fun e w' => e = .returned (.int .i64 0) ∧ Below w.heap.size w w' := by
  have hB := bnextA (Below.refl w.heap.size w) (.cells #[.int .u64 lo, .int .u64 hi] 81)
  have hd : decide (n < 1) = true := by simpa using hn
  go_enter Try.func47, Try.ntmps47
  go_wp2_with fail
  go_ret
  exact ⟨rfl, hB⟩
theorem linkboyref13_under_1 (lo hi : Nat) (h1 : lo < 18446744073709551616) (h2 : hi < 18446744073709551616) (A : Option Addr) (c : Nat) (xs : List UInt8) (n r : Nat) (hn : 1 ≤ n) (hm : n ≤ 9223372036854775807) (hr : Hid (sipN lo hi xs % n = r)) (w : World) (ha : Rd bv w w.heap.size A c xs) (hl : xs.length ≤ 1000000) :
    Calls Try.prog 47 #[.agg #[.int .u64 lo, .int .u64 hi], .slice A xs.length c, .int .i64 (n : Int)] w fun e w' => e = .returned (.int .i64 (r : Int)) ∧ Below w.heap.size w w' := by
  have hB := bnextA (Below.refl w.heap.size w) (.cells #[.int .u64 lo, .int .u64 hi] 81)
  obtain ⟨z0, z1, -⟩ := (Blk.new w #[.int .u64 lo, .int .u64 hi] 81).get2
  have HC := Lib.hid (rsum_sip lo hi h1 h2 A c xs _ (ha.nextA (.cells #[.int .u64 lo, .int .u64 hi] 81)) hl)
  have hw : IntKind.u64.wrap (n : Int) = (n : Int) := by rw [wrap_u64s]; omega
  have hrn : r < n := by rw [← hr.out]; exact Nat.mod_lt _ (by omega)
  have ht : ((sipN lo hi xs : Nat) : Int).tmod (n : Int) = (r : Int) := by rw [Int.tmod_eq_emod_of_nonneg (by omega), ← hr.out]; simp
  have hn0 : ¬ (n : Int) < 1 := by omega
  have hn1 : (n : Int) ≠ 0 := by omega
  generalize sipN lo hi xs = S at *
  go_enter Try.func47, Try.ntmps47
  go_wp2_with fail
  refine HC.out.mono ?_
  rintro e w1 ⟨rfl, hb⟩
  replace hB := bnext hB hb
  go_wp2_with fail
  go_ret
  exact ⟨rfl, hB⟩
theorem sip_known : sipN 506097522914230528 1084818905618843912 [0, 1, 2, 3, 4, 5, 6, 7, 8, 9, 10, 11, 12, 13, 14] = 11613035633349379557 := by decide +kernel
theorem lives13_any (w : World) : Calls Try.prog 48 #[] w fun e w' => e = .returned (.bool true) ∧ Below w.heap.size w w' := by
  have hB := bnextA (bnextA (Below.refl w.heap.size w) (.cells #[.int .u64 506097522914230528, .int .u64 1084818905618843912] 81)) (.cells #[.int .u8 0, .int .u8 1, .int .u8 2, .int .u8 3, .int .u8 4, .int .u8 5, .int .u8 6, .int .u8 7, .int .u8 8, .int .u8 9, .int .u8 10, .int .u8 11, .int .u8 12, .int .u8 13, .int .u8 14] 5)
  obtain ⟨z0, z1, -⟩ := ((Blk.new w #[.int .u64 506097522914230528, .int .u64 1084818905618843912] 81).alloc (.cells #[.int .u8 0, .int .u8 1, .int .u8 2, .int .u8 3, .int .u8 4, .int .u8 5, .int .u8 6, .int .u8 7, .int .u8 8, .int .u8 9, .int .u8 10, .int .u8 11, .int .u8 12, .int .u8 13, .int .u8 14] 5)).get2
  have hs : (w.alloc (.cells #[.int .u64 506097522914230528, .int .u64 1084818905618843912] 81)).heap.size = w.heap.size + 1 := by simp
  have HC := Lib.hid (sum_sip 506097522914230528 1084818905618843912 (by omega) (by omega) (some ⟨w.heap.size + 1, 0, none⟩) 15 [0, 1, 2, 3, 4, 5, 6, 7, 8, 9, 10, 11, 12, 13, 14] _ (lit_at (w.alloc (.cells #[.int .u64 506097522914230528, .int .u64 1084818905618843912] 81)) (w.heap.size + 1) [0, 1, 2, 3, 4, 5, 6, 7, 8, 9, 10, 11, 12, 13, 14] hs.symm #[.int .u8 0, .int .u8 1, .int .u8 2, .int .u8 3, .int .u8 4, .int .u8 5, .int .u8 6, .int .u8 7, .int .u8 8, .int .u8 9, .int .u8 10, .int .u8 11, .int .u8 12, .int .u8 13, .int .u8 14] rfl 5 (by simp)) (by simp))
  rw [sip_known] at HC
  clear hs
  go_enter Try.func48, Try.ntmps48
  go_wp2_with fail
  refine HC.out.mono ?_
  rintro e w1 ⟨rfl, hb⟩
  replace hB := bnext hB hb
  go_wp2_with fail
  go_ret
  exact ⟨rfl, hB⟩
end Go.Proofs.Ytiokofpmmlbncab
