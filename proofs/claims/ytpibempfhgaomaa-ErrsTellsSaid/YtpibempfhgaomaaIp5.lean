/- Contracts of the reference's Parse of packets. -/
import Derived.Test.YtpibempfhgaomaaIp4
import Derived.Test.YtpibempfhgaomaaReg2
namespace Go.Proofs.Ytpibempfhgaomaa
open Go.RowKit

theorem two_of (xs : List UInt8) (k n : Nat) (h : k + 2 ≤ xs.length) (hn : beN ((xs.drop k).take 2) = n) : (xs[k].toNat : Int) * 256 + (xs[k + 1].toNat : Int) = (n : Int) := by
  rw [take_two xs k h, beN_two] at hn
  omega

end Go.Proofs.Ytpibempfhgaomaa
