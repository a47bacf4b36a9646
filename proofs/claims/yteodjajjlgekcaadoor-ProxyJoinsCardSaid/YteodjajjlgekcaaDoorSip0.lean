/- Contracts of bits.RotateLeft64 and of the reference's turn of bits. -/
import Derived.Test.YteodjajjlgekcaaDoorBlk
import Derived.Test.YteodjajjlgekcaaDoorNum
import Derived.Test.YteodjajjlgekcaaDoorSum1
import Derived.Laws.BitsAllLaws
import Derived.Laws.Small
import Derived.RegionTactic
namespace Go.Proofs.YteodjajjlgekcaaDoor
open Go.RowKit

/-- A number of 64 bits, turned to the left by one; by so many. -/
def rol1 (y : Nat) : Nat := y * 2 % 18446744073709551616 + y / 9223372036854775808
def rolN (x : Nat) : Nat → Nat
  | 0 => x
  | j + 1 => rol1 (rolN x j)
theorem rol1_lt (y : Nat) (h : y < 18446744073709551616) : rol1 y < 18446744073709551616 := by unfold rol1; omega
theorem rolN_lt (x : Nat) (h : x < 18446744073709551616) (j : Nat) : rolN x j < 18446744073709551616 := by
  induction j with
  | zero => exact h
  | succ j ih => exact rol1_lt _ ih
theorem rol_arith (P K b r q Y : Nat) (hPK : P * K = 9223372036854775808) (hb : b < 2) (hr : r < P) (hq : q < K) (hY : Y = (b * P + r) * K + q) : rol1 Y = r * (K * 2) + (q * 2 + b) := by
  have h1 : (b * P + r) * K = b * 9223372036854775808 + r * K := by rw [Nat.add_mul, Nat.mul_assoc, hPK]
  have h2 : r * K + K ≤ 9223372036854775808 := by
    rw [← hPK]
    calc r * K + K = (r + 1) * K := by rw [Nat.add_mul, Nat.one_mul]
      _ ≤ P * K := Nat.mul_le_mul_right K hr
  have h3 : r * (K * 2) = r * K * 2 := by rw [Nat.mul_assoc]
  rw [h3]
  rw [h1] at hY
  generalize r * K = R at *
  clear h1 h3 hPK hr
  unfold rol1
  subst hY
  rcases (by omega : b = 0 ∨ b = 1) with rfl | rfl
  · omega
  · omega
theorem rol_form (x : Nat) : ∀ k, k ≤ 64 → ∀ q r, q < 2 ^ k → r < 2 ^ (64 - k) → x = q * 2 ^ (64 - k) + r → rolN x k = r * 2 ^ k + q := by
  intro k
  induction k with
  | zero =>
    intro _ q r hq hr hx
    simp at hq
    subst hq
    simp [rolN, hx]
  | succ k ih =>
    intro hk q r hq hr hx
    have e1 : 64 - k = (64 - (k + 1)) + 1 := by omega
    have hP : 2 ^ (64 - k) = 2 ^ (64 - (k + 1)) * 2 := by rw [e1, Nat.pow_succ]
    have hPK : 2 ^ (64 - (k + 1)) * 2 ^ k = 9223372036854775808 := by
      rw [← Nat.pow_add, show 64 - (k + 1) + k = 63 by omega]
    have hK : 2 ^ (k + 1) = 2 ^ k * 2 := Nat.pow_succ 2 k
    rw [hK] at hq
    have h := ih (by omega) (q / 2) (q % 2 * 2 ^ (64 - (k + 1)) + r) (by omega) ?_ ?_
    · show rol1 (rolN x k) = _
      have h2 := rol_arith (2 ^ (64 - (k + 1))) (2 ^ k) (q % 2) r (q / 2) (rolN x k) hPK (by omega) hr (by omega) h
      rw [h2, hK]
      omega
    · rw [hP]
      rcases (by omega : q % 2 = 0 ∨ q % 2 = 1) with h0 | h0 <;> rw [h0] <;> omega
    · rw [hx, hP]
      have : q = q / 2 * 2 + q % 2 := by omega
      generalize 2 ^ (64 - (k + 1)) = P at *
      have h3 : q * P = (q / 2 * 2 + q % 2) * P := by rw [← this]
      rw [h3, Nat.add_mul, Nat.mul_assoc, Nat.mul_comm 2 P]
      omega
theorem rol_or (x k A B : Nat) (hk : k ≤ 64) (hx : x < 18446744073709551616) (hA : A = x * 2 ^ k % 18446744073709551616) (hB : B = x / 2 ^ (64 - k)) : A ||| B = rolN x k := by
  have hPK : 2 ^ (64 - k) * 2 ^ k = 18446744073709551616 := by rw [← Nat.pow_add, show 64 - k + k = 64 by omega]
  have hp : 0 < 2 ^ (64 - k) := Nat.two_pow_pos _
  have hq : x / 2 ^ (64 - k) < 2 ^ k := by
    rw [Nat.div_lt_iff_lt_mul hp, Nat.mul_comm, hPK]; exact hx
  have hx2 : x = x / 2 ^ (64 - k) * 2 ^ (64 - k) + x % 2 ^ (64 - k) := by rw [Nat.mul_comm]; exact (Nat.div_add_mod _ _).symm
  have hf := rol_form x k hk _ _ hq (Nat.mod_lt _ hp) hx2
  have hA2 : A = (x % 2 ^ (64 - k)) * 2 ^ k := by
    rw [hA, ← hPK, Nat.mul_mod_mul_right]
  rw [hf, hA2, hB, ← Nat.shiftLeft_eq]
  exact (Nat.shiftLeft_add_eq_or_of_lt hq _).symm

theorem rot13 (x : Nat) (hx : x < 18446744073709551616) (w : World) : Calls Tryd.prog 68 #[.int .u64 x, .int .i64 13] w fun e w' => e = .returned (.int .u64 (rolN x 13 : Nat)) ∧ w = w' := by
  have h1 : bits BinOp.and IntKind.u64 13 63 = 13 := by rfl
  have h2 : bits BinOp.or IntKind.u64 (IntKind.u64.wrap ((x : Int) * 8192)) ((x : Int) / 2251799813685248) = ((rolN x 13 : Nat) : Int) := by
    have e1 : IntKind.u64.wrap ((x : Int) * 8192) = ((x * 2 ^ 13 % 18446744073709551616 : Nat) : Int) := by rw [wrap_u64s]; omega
    have e2 : (x : Int) / 2251799813685248 = ((x / 2 ^ (64 - 13) : Nat) : Int) := by omega
    rw [e1, e2, u64_or_nat _ _ (Nat.mod_lt _ (by omega)) (Nat.lt_of_le_of_lt (Nat.div_le_self _ _) hx), rol_or x 13 _ _ (by omega) hx rfl rfl]
  go_enter Tryd.func68, Tryd.ntmps68
  go_wp2_with fail
  simp [bodyPost, results, Tryd.results68, go_sem, *]
theorem rot16 (x : Nat) (hx : x < 18446744073709551616) (w : World) : Calls Tryd.prog 68 #[.int .u64 x, .int .i64 16] w fun e w' => e = .returned (.int .u64 (rolN x 16 : Nat)) ∧ w = w' := by
  have h1 : bits BinOp.and IntKind.u64 16 63 = 16 := by rfl
  have h2 : bits BinOp.or IntKind.u64 (IntKind.u64.wrap ((x : Int) * 65536)) ((x : Int) / 281474976710656) = ((rolN x 16 : Nat) : Int) := by
    have e1 : IntKind.u64.wrap ((x : Int) * 65536) = ((x * 2 ^ 16 % 18446744073709551616 : Nat) : Int) := by rw [wrap_u64s]; omega
    have e2 : (x : Int) / 281474976710656 = ((x / 2 ^ (64 - 16) : Nat) : Int) := by omega
    rw [e1, e2, u64_or_nat _ _ (Nat.mod_lt _ (by omega)) (Nat.lt_of_le_of_lt (Nat.div_le_self _ _) hx), rol_or x 16 _ _ (by omega) hx rfl rfl]
  go_enter Tryd.func68, Tryd.ntmps68
  go_wp2_with fail
  simp [bodyPost, results, Tryd.results68, go_sem, *]
theorem rot17 (x : Nat) (hx : x < 18446744073709551616) (w : World) : Calls Tryd.prog 68 #[.int .u64 x, .int .i64 17] w fun e w' => e = .returned (.int .u64 (rolN x 17 : Nat)) ∧ w = w' := by
  have h1 : bits BinOp.and IntKind.u64 17 63 = 17 := by rfl
  have h2 : bits BinOp.or IntKind.u64 (IntKind.u64.wrap ((x : Int) * 131072)) ((x : Int) / 140737488355328) = ((rolN x 17 : Nat) : Int) := by
    have e1 : IntKind.u64.wrap ((x : Int) * 131072) = ((x * 2 ^ 17 % 18446744073709551616 : Nat) : Int) := by rw [wrap_u64s]; omega
    have e2 : (x : Int) / 140737488355328 = ((x / 2 ^ (64 - 17) : Nat) : Int) := by omega
    rw [e1, e2, u64_or_nat _ _ (Nat.mod_lt _ (by omega)) (Nat.lt_of_le_of_lt (Nat.div_le_self _ _) hx), rol_or x 17 _ _ (by omega) hx rfl rfl]
  go_enter Tryd.func68, Tryd.ntmps68
  go_wp2_with fail
  simp [bodyPost, results, Tryd.results68, go_sem, *]
theorem rot21 (x : Nat) (hx : x < 18446744073709551616) (w : World) : Calls Tryd.prog 68 #[.int .u64 x, .int .i64 21] w fun e w' => e = .returned (.int .u64 (rolN x 21 : Nat)) ∧ w = w' := by
  have h1 : bits BinOp.and IntKind.u64 21 63 = 21 := by rfl
  have h2 : bits BinOp.or IntKind.u64 (IntKind.u64.wrap ((x : Int) * 2097152)) ((x : Int) / 8796093022208) = ((rolN x 21 : Nat) : Int) := by
    have e1 : IntKind.u64.wrap ((x : Int) * 2097152) = ((x * 2 ^ 21 % 18446744073709551616 : Nat) : Int) := by rw [wrap_u64s]; omega
    have e2 : (x : Int) / 8796093022208 = ((x / 2 ^ (64 - 21) : Nat) : Int) := by omega
    rw [e1, e2, u64_or_nat _ _ (Nat.mod_lt _ (by omega)) (Nat.lt_of_le_of_lt (Nat.div_le_self _ _) hx), rol_or x 21 _ _ (by omega) hx rfl rfl]
  go_enter Tryd.func68, Tryd.ntmps68
  go_wp2_with fail
  simp [bodyPost, results, Tryd.results68, go_sem, *]
theorem rot32 (x : Nat) (hx : x < 18446744073709551616) (w : World) : Calls Tryd.prog 68 #[.int .u64 x, .int .i64 32] w fun e w' => e = .returned (.int .u64 (rolN x 32 : Nat)) ∧ w = w' := by
  have h1 : bits BinOp.and IntKind.u64 32 63 = 32 := by rfl
  have h2 : bits BinOp.or IntKind.u64 (IntKind.u64.wrap ((x : Int) * 4294967296)) ((x : Int) / 4294967296) = ((rolN x 32 : Nat) : Int) := by
    have e1 : IntKind.u64.wrap ((x : Int) * 4294967296) = ((x * 2 ^ 32 % 18446744073709551616 : Nat) : Int) := by rw [wrap_u64s]; omega
    have e2 : (x : Int) / 4294967296 = ((x / 2 ^ (64 - 32) : Nat) : Int) := by omega
    rw [e1, e2, u64_or_nat _ _ (Nat.mod_lt _ (by omega)) (Nat.lt_of_le_of_lt (Nat.div_le_self _ _) hx), rol_or x 32 _ _ (by omega) hx rfl rfl]
  go_enter Tryd.func68, Tryd.ntmps68
  go_wp2_with fail
  simp [bodyPost, results, Tryd.results68, go_sem, *]
theorem by_any (x n : Nat) (hx : x < 18446744073709551616) (hn : n ≤ 64) (w : World) : Calls Tryd.prog 69 #[.int .u64 x, .int .i64 n] w fun e w' => e = .returned (.int .u64 (rolN x n : Nat)) ∧ w = w' := by
  go_enter Tryd.func69, Tryd.ntmps69
  go_wp2_with fail
  go_loopw [0, 5, 6] (fun v i t wr => ∃ j : Nat, j ≤ n ∧ i = .int .i64 j ∧ v = .int .u64 (rolN x j : Nat) ∧ w = wr) (fun _ i _ _ => n - (intOf i).toNat)
  case atStart => exact ⟨0, by omega, rfl, rfl, rfl⟩
  case round =>
    obtain ⟨j, hj, rfl, rfl, rfl⟩ := hrel
    by_cases hlt : j < n
    · have hy := rolN_lt x hx j
      have hst : rolN x (j + 1) = rol1 (rolN x j) := rfl
      have HST := Lib.hid hst
      clear hst
      generalize rolN x j = y at *
      go_wp2_with fail
      go_roundw
      case rel =>
        refine ⟨j + 1, by omega, by go_num, ?_, trivial⟩
        rw [HST.out, rol1, wrap_u64s, wrap_u64s]
        exact congrArg (Value.int .u64) (by omega)
      case measure => simp [intOf]; omega
    · have : j = n := by omega
      subst this
      go_wp2_with fail
      go_ret
      exact ⟨rfl, rfl⟩
end Go.Proofs.YteodjajjlgekcaaDoor
