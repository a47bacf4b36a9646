/- Contracts of package octet's makers: fresh, Put16, Put32, Hex. -/
import Derived.Test.YtggcomociojfoabProg
import Derived.Test.YtggcomociojfoabMem
import Derived.Test.YtggcomociojfoabNum
import Derived.BigQuiet
import Derived.Deep.QuietTactic
import Derived.Outline
import Derived.RegionTactic
import Derived.Deep.RegionLaw
namespace Go.Proofs.Ytggcomociojfoab
open Go.RowKit

theorem info_u8 : (Try.prog.info? 5).map (fun i => (i.zero, i.size, i.bytes)) = some (some (.int .u8 0), 1, 1) := by kernel_rfl
theorem bv_one (x : UInt8) : (bv x).oneCell' = true := rfl

theorem fig_at : ∀ k (h : k < 16), (⟨#[48, 49, 50, 51, 52, 53, 54, 55, 56, 57, 97, 98, 99, 100, 101, 102]⟩ : ByteArray)[k]'h = fig k := by decide
theorem idx_fig (k : Nat) (h : k < 16) (w : World) :
    (Instr.index 9 (.string ⟨#[48, 49, 50, 51, 52, 53, 54, 55, 56, 57, 97, 98, 99, 100, 101, 102]⟩) (.int .u8 (k : Int))).run Try.prog w = .ok (.int .u8 ((fig k).toNat : Int)) w := by
  have hk : (k : Int) < 16 := by omega
  have h0 : (0 : Int) ≤ k := by omega
  go_simp
  rw [← fig_at k h]
theorem and15 (x : UInt8) : bits BinOp.and IntKind.u8 (x.toNat : Int) 15 = ((x.toNat % 16 : Nat) : Int) := by
  have hx := x.toNat_lt
  rw [show (15 : Int) = ((15 : Nat) : Int) from rfl, u8_and_nat _ _ (by omega) (by omega), nat_mask4]

end Go.Proofs.Ytggcomociojfoab
