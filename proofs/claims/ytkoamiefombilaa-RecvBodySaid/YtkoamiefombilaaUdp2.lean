/- Contracts of udp.Put and of the reference's answer for it. -/
import Derived.Test.YtkoamiefombilaaUdp1
namespace Go.Proofs.Ytkoamiefombilaa
open Go.RowKit

theorem ub_put (a b : UInt16) (xs : List UInt8) : puts16 [a, b, UInt16.ofNat (8 + xs.length), 0] ++ xs = ub a b 0 xs := by
  simp [puts16, ub, be16]
theorem ub_set (a b : UInt16) (s : Nat) (hs : s ≤ 65535) (xs : List UInt8) : ((ub a b 0 xs).set 6 (UInt8.ofNat (s / 256))).set 7 (UInt8.ofNat (s % 256)) = ub a b s xs := by
  rw [ub, ub, be16_ofNat s hs]
  rfl

end Go.Proofs.Ytkoamiefombilaa
