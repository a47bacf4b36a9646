/- The numbers of cookies: plain mathematics. -/
import Derived.Test.YteodjajjlgekcaaDoorSip6
import Derived.Test.YteodjajjlgekcaaDoorKit
namespace Go.Proofs.YteodjajjlgekcaaDoor
open Go.RowKit

/-- The number of an epoch's place e, a size's place i, by the key (lo, hi), over the bytes B. -/
def ckN (lo hi : Nat) (B : List UInt8) (e i : Nat) : Nat := e * 134217728 + i * 16777216 + sipN lo hi (B ++ [UInt8.ofNat e, UInt8.ofNat i]) % 16777216
theorem ckN_lt (lo hi : Nat) (B : List UInt8) (e i : Nat) (he : e < 32) (h8 : i < 8) : ckN lo hi B e i < 4294967296 := by unfold ckN; omega
theorem ckN_e (lo hi : Nat) (B : List UInt8) (e i : Nat) (h8 : i < 8) : ckN lo hi B e i / 134217728 = e := by unfold ckN; omega
theorem ckN_i (lo hi : Nat) (B : List UInt8) (e i : Nat) (h8 : i < 8) : ckN lo hi B e i / 16777216 % 8 = i := by unfold ckN; omega
theorem ck_or (e i s : Nat) (he : e < 32) (h8 : i < 8) (hs : s < 16777216) :
    bits BinOp.or IntKind.u32 (bits BinOp.or IntKind.u32 (IntKind.u32.wrap ((e : Int) * 134217728)) (IntKind.u32.wrap ((i : Int) * 16777216))) (s : Int) = ((e * 134217728 + i * 16777216 + s : Nat) : Int) := by
  simp only [IntKind.wrap_u32]
  have e1 : ((e : Int) * 134217728) % 4294967296 = ((e * 134217728 : Nat) : Int) := by omega
  have e2 : ((i : Int) * 16777216) % 4294967296 = ((i * 16777216 : Nat) : Int) := by omega
  rw [e1, e2, u32_or_nat _ _ (by omega) (by omega), nat_join 27 _ _ (by omega) (by omega), show e * 134217728 + i * 16777216 = (e * 8 + i) * 16777216 by omega, u32_or_nat _ _ (by omega) (by omega), nat_join 24 _ _ (by omega) (by omega)]
theorem ck_mask (s : Nat) (hs : s < 18446744073709551616) : bits BinOp.and IntKind.u64 (s : Int) 16777215 = ((s % 16777216 : Nat) : Int) := by
  rw [show (16777215 : Int) = ((16777215 : Nat) : Int) from rfl, u64_and_nat _ _ (by omega) (by omega)]
  exact congrArg Int.ofNat (Nat.and_two_pow_sub_one_eq_mod s 24)
/-- Of a number below 0: 0; the rest modulo n. -/
def ckR (n : Int) (m : Nat) : Nat := n.toNat % m
/-- Which numbers are right. -/
def rightB (lo hi lo2 hi2 : Nat) (ep : Int) (B : List UInt8) (v : Nat) : Bool :=
  if v / 134217728 = ckR ep 32 then v == ckN lo hi B (v / 134217728) (v / 16777216 % 8)
  else if 0 < ep ∧ v / 134217728 = ckR (ep - 1) 32 then v == ckN lo2 hi2 B (v / 134217728) (v / 16777216 % 8) else false
theorem right_now (lo hi lo2 hi2 : Nat) (ep : Int) (B : List UInt8) (i : Nat) (h8 : i < 8) : rightB lo hi lo2 hi2 ep B (ckN lo hi B (ckR ep 32) i) = true := by
  simp [rightB, ckN_e, ckN_i, h8]
theorem right_last (lo hi lo2 hi2 : Nat) (ep : Int) (B : List UInt8) (i : Nat) (h8 : i < 8) (h0 : 0 ≤ ep) : rightB lo2 hi2 lo hi (ep + 1) B (ckN lo hi B (ckR ep 32) i) = true := by
  have hne : ckR ep 32 ≠ ckR (ep + 1) 32 := by unfold ckR; omega
  have h1 : ep + 1 - 1 = ep := by omega
  have h2 : 0 < ep + 1 := by omega
  simp [rightB, ckN_e, ckN_i, h8, hne, h1, h2]
end Go.Proofs.YteodjajjlgekcaaDoor
