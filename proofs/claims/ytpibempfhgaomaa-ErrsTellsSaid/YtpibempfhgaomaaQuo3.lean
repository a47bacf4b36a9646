/- Contracts of the reference's Of for package quote. -/
import Derived.Test.YtpibempfhgaomaaQuo2
import Derived.Test.YtpibempfhgaomaaIp5
namespace Go.Proofs.Ytpibempfhgaomaa
open Go.RowKit

/-- Which of three numbers a first byte is. -/
def Tells (ty : UInt8) : Prop := (((ty.toNat : Int) != 3) = false) ∨ (((ty.toNat : Int) != 3) = true ∧ ((ty.toNat : Int) != 11) = false) ∨ (((ty.toNat : Int) != 3) = true ∧ ((ty.toNat : Int) != 11) = true ∧ ((ty.toNat : Int) != 12) = false)
theorem tells_of (ty : UInt8) (h : decide (ty.toNat = 3 ∨ ty.toNat = 11 ∨ ty.toNat = 12) = true) : Tells ty := by
  rcases of_decide_eq_true h with h | h | h <;> rw [Tells, h] <;> simp
theorem tells_not (ty : UInt8) (h : decide (ty.toNat = 3 ∨ ty.toNat = 11 ∨ ty.toNat = 12) = false) : ((ty.toNat : Int) != 3) = true ∧ ((ty.toNat : Int) != 11) = true ∧ ((ty.toNat : Int) != 12) = true := by
  have := of_decide_eq_false h
  simp
  omega

end Go.Proofs.Ytpibempfhgaomaa
