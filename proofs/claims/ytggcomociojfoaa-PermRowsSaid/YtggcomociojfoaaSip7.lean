/- Contracts of Under on both sides, and of the law's lives. -/
import Derived.Test.YtggcomociojfoaaSip6
namespace Go.Proofs.Ytggcomociojfoaa
open Go.RowKit

theorem wanted_un {o : Oper} {y : Nat → Option Bool} {g : Nat} {b : Bool} (h : o.guard = some (g, b)) (hy : y g = none) : Region.wanted o y = false := by simp [Region.wanted, h, hy]
theorem yielded_un {ops : Array Oper} {u : Nat → Value} {a : Act} {g k : Nat} (hk : (ops[g]?).bind (·.dst) = some k) (hs : slotAt ops.toList k 0 = some g) (n : Nat) (hn : a.tmps.size = n) (hkn : k < n) (hu : u g = undef) : yielded ops (putAll u ops.toList 0 a).tmps g = none := by
  unfold yielded
  rw [hk]
  simp only [Option.bind_some]
  rw [putAll_at _ _ _ _ _ (by omega), hs]
  simp only
  rw [hu]
  rfl
theorem sip_under_0 (lo hi : Nat) (_h1 : lo < 18446744073709551616) (_h2 : hi < 18446744073709551616) (A : Option Addr) (c : Nat) (xs : List UInt8) (n : Int) (hn : n < 1) (w : World) :
    Calls Try.prog 55 #[.agg #[.int .u64 lo, .int .u64 hi], .slice A xs.length c, .int .i64 n] w fun e w' => e = .returned (.int .i64 0) ∧ Below w.heap.size w w' := by
  have hB := bnextA (Below.refl w.heap.size w) (.cells #[.int .u64 lo, .int .u64 hi] 35)
  have hd : decide (n < 1) = true := by simpa using hn
  go_enter Try.func55, Try.ntmps55
  go_wp2_with fail
  go_ret
  exact ⟨rfl, hB⟩
theorem sip_under_1 (lo hi : Nat) (h1 : lo < 18446744073709551616) (h2 : hi < 18446744073709551616) (A : Option Addr) (c : Nat) (xs : List UInt8) (n r : Nat) (hn : 1 ≤ n) (hm : n ≤ 9223372036854775807) (hr : Hid (sipN lo hi xs % n = r)) (w : World) (ha : Rd bv w w.heap.size A c xs) (hl : xs.length ≤ 1000000) :
    Calls Try.prog 55 #[.agg #[.int .u64 lo, .int .u64 hi], .slice A xs.length c, .int .i64 (n : Int)] w fun e w' => e = .returned (.int .i64 (r : Int)) ∧ Below w.heap.size w w' := by
  have hB := bnextA (Below.refl w.heap.size w) (.cells #[.int .u64 lo, .int .u64 hi] 35)
  obtain ⟨z0, z1, -⟩ := (Blk.new w #[.int .u64 lo, .int .u64 hi] 35).get2
  have HC := Lib.hid (sum_sip lo hi h1 h2 A c xs _ (ha.nextA (.cells #[.int .u64 lo, .int .u64 hi] 35)) hl)
  have hw : IntKind.u64.wrap (n : Int) = (n : Int) := by rw [wrap_u64s]; omega
  have hrn : r < n := by rw [← hr.out]; exact Nat.mod_lt _ (by omega)
  have ht : ((sipN lo hi xs : Nat) : Int).tmod (n : Int) = (r : Int) := by rw [Int.tmod_eq_emod_of_nonneg (by omega), ← hr.out]; simp
  have hn0 : ¬ (n : Int) < 1 := by omega
  have hn1 : (n : Int) ≠ 0 := by omega
  generalize sipN lo hi xs = S at *
  go_enter Try.func55, Try.ntmps55
  go_wp2_with fail
  refine HC.out.mono ?_
  rintro e w1 ⟨rfl, hb⟩
  replace hB := bnext hB hb
  go_wp2_with fail
  go_ret
  exact ⟨rfl, hB⟩
theorem linkboyref13_under_0 (lo hi : Nat) (_h1 : lo < 18446744073709551616) (_h2 : hi < 18446744073709551616) (A : Option Addr) (c : Nat) (xs : List UInt8) (n : Int) (hn : n < 1) (w : World) :
    Calls Try.prog 33 #[.agg #[.int .u64 lo, .int .u64 hi], .slice A xs.length c, .int .i64 n] w fun e w' => e = .returned (.int .i64 0) ∧ Below w.heap.size w w' := by
  have hB := bnextA (Below.refl w.heap.size w) (.cells #[.int .u64 lo, .int .u64 hi] 35)
  have hd : decide (n < 1) = true := by simpa using hn
  go_enter Try.func33, Try.ntmps33
  go_wp2_with fail
  go_ret
  exact ⟨rfl, hB⟩
theorem linkboyref13_under_1 (lo hi : Nat) (h1 : lo < 18446744073709551616) (h2 : hi < 18446744073709551616) (A : Option Addr) (c : Nat) (xs : List UInt8) (n r : Nat) (hn : 1 ≤ n) (hm : n ≤ 9223372036854775807) (hr : Hid (sipN lo hi xs % n = r)) (w : World) (ha : Rd bv w w.heap.size A c xs) (hl : xs.length ≤ 1000000) :
    Calls Try.prog 33 #[.agg #[.int .u64 lo, .int .u64 hi], .slice A xs.length c, .int .i64 (n : Int)] w fun e w' => e = .returned (.int .i64 (r : Int)) ∧ Below w.heap.size w w' := by
  have hB := bnextA (Below.refl w.heap.size w) (.cells #[.int .u64 lo, .int .u64 hi] 35)
  obtain ⟨z0, z1, -⟩ := (Blk.new w #[.int .u64 lo, .int .u64 hi] 35).get2
  have HC := Lib.hid (rsum_sip lo hi h1 h2 A c xs _ (ha.nextA (.cells #[.int .u64 lo, .int .u64 hi] 35)) hl)
  have hw : IntKind.u64.wrap (n : Int) = (n : Int) := by rw [wrap_u64s]; omega
  have hrn : r < n := by rw [← hr.out]; exact Nat.mod_lt _ (by omega)
  have ht : ((sipN lo hi xs : Nat) : Int).tmod (n : Int) = (r : Int) := by rw [Int.tmod_eq_emod_of_nonneg (by omega), ← hr.out]; simp
  have hn0 : ¬ (n : Int) < 1 := by omega
  have hn1 : (n : Int) ≠ 0 := by omega
  generalize sipN lo hi xs = S at *
  go_enter Try.func33, Try.ntmps33
  go_wp2_with fail
  refine HC.out.mono ?_
  rintro e w1 ⟨rfl, hb⟩
  replace hB := bnext hB hb
  go_wp2_with fail
  go_ret
  exact ⟨rfl, hB⟩
theorem sip_known : sipN 506097522914230528 1084818905618843912 [0, 1, 2, 3, 4, 5, 6, 7, 8, 9, 10, 11, 12, 13, 14] = 11613035633349379557 := by decide +kernel
end Go.Proofs.Ytggcomociojfoaa
