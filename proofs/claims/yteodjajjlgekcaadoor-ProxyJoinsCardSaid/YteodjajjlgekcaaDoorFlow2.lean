/- flow.Of and the reference's Of, where there is a flow. -/
import Derived.Test.YteodjajjlgekcaaDoorFlow1
import Derived.Test.YteodjajjlgekcaaDoorOct1
import Derived.Deep.RegionHeld3
namespace Go.Proofs.YteodjajjlgekcaaDoor
open Go.RowKit

theorem bset5 {B : Nat} {w0 w : World} (hB : Below B w0 w) {g : Nat} (hg : B ≤ g) (v0 v1 v2 v3 v4 : Value) : Below B w0 (((((w.setCell ⟨g, 0, none⟩ v0).setCell ⟨g, 1, none⟩ v1).setCell ⟨g, 2, none⟩ v2).setCell ⟨g, 3, none⟩ v3).setCell ⟨g, 4, none⟩ v4) :=
  ((((hB.setCell hg v0).setCell hg v1).setCell hg v2).setCell hg v3).setCell hg v4
theorem wrap16_all (x y : UInt8) : IntKind.u16.wrap (IntKind.u16.wrap (IntKind.u16.wrap (x.toNat : Int) * 256) + IntKind.u16.wrap (y.toNat : Int)) = ((x.toNat * 256 + y.toNat : Nat) : Int) := by
  have := x.toNat_lt
  have := y.toNat_lt
  simp only [IntKind.wrap_u16]
  omega
theorem get16_two (A : Option Addr) (c : Nat) (xs : List UInt8) (k : Nat) (w : World) (hr : Rd bv w w.heap.size A c xs) (hk : k + 2 ≤ xs.length) :
    Calls Tryd.prog 64 #[.slice A xs.length c, .int .i64 k] w fun e w' => e = .returned (.tuple #[.int .u16 ((xs[k].toNat * 256 + xs[k + 1].toNat : Nat) : Int), .bool true]) ∧ Drawn w w' := by
  have := get16_yes A c xs k w _ hr hk
  rw [take_two xs k hk, beN_two] at this
  exact this

end Go.Proofs.YteodjajjlgekcaaDoor
