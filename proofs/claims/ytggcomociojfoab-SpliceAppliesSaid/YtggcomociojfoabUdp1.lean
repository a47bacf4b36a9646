/- Contracts of package udp's makers and of the reference's answers for them. -/
import Derived.Test.YtggcomociojfoabKit
namespace Go.Proofs.Ytggcomociojfoab
open Go.RowKit

/-- A false head's bytes; a datagram's. -/
def uh (s d : UInt32) (p : UInt8) (n : Nat) : List UInt8 := be32 s ++ (be32 d ++ ([0, p] ++ be16 (UInt16.ofNat n)))
theorem uh_len (s d : UInt32) (p : UInt8) (n : Nat) : (uh s d p n).length = 12 := by simp [uh, be32, be16]
def ub (a b : UInt16) (s : Nat) (xs : List UInt8) : List UInt8 := be16 a ++ (be16 b ++ (be16 (UInt16.ofNat (8 + xs.length)) ++ (be16 (UInt16.ofNat s) ++ xs)))
theorem ub_len (a b : UInt16) (s : Nat) (xs : List UInt8) : (ub a b s xs).length = 8 + xs.length := by simp [ub, be16]; omega

theorem ruh_eq (s d : UInt32) (p : UInt8) (n : Nat) (hn : n ≤ 65535) : (putN 4 s.toNat ++ putN 4 d.toNat) ++ [0, p, UInt8.ofNat (n / 256 % 256), UInt8.ofNat (n % 256)] = uh s d p n := by
  rw [uh, be16_ofNat n hn, be32_put, be32_put, show n / 256 % 256 = n / 256 by omega]
  simp
end Go.Proofs.Ytggcomociojfoab
