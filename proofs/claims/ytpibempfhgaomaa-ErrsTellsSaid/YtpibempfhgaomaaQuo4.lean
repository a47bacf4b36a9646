/- Contracts of the reference's Of for package quote: where it comes to ports. -/
import Derived.Test.YtpibempfhgaomaaQuo3
namespace Go.Proofs.Ytpibempfhgaomaa
open Go.RowKit

/-- A protocol with ports. -/
def Ported (pr : UInt8) : Prop := (((pr.toNat : Int) != 6) = false) ∨ (((pr.toNat : Int) != 6) = true ∧ ((pr.toNat : Int) != 17) = false)
theorem ported_of (pr : UInt8) (h : pr.toNat = 6 ∨ pr.toNat = 17) : Ported pr := by
  rcases h with h | h <;> rw [Ported, h] <;> simp

end Go.Proofs.Ytpibempfhgaomaa
