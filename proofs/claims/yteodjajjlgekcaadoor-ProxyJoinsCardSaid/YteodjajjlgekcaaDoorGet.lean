/- Two plain words on numbers of two bytes. -/
import Derived.Test.YteodjajjlgekcaaDoorKit
import Derived.Test.YteodjajjlgekcaaDoorOct4
namespace Go.Proofs.YteodjajjlgekcaaDoor
open Go.RowKit

theorem get16_b (A : Option Addr) (c : Nat) (bs : List UInt8) (k : Nat) (K : Int) (n : Nat) (hK : K = (k : Int)) (w : World) (hb : Rd bv w w.heap.size A c bs) (h : k + 2 ≤ bs.length) (hn : beN ((bs.drop k).take 2) = n) :
    Calls Tryd.prog 64 #[.slice A bs.length c, .int .i64 K] w fun e w' => e = .returned (.tuple #[.int .u16 (n : Int), .bool true]) ∧ Below w.heap.size w w' := by
  subst hK hn
  exact (get16_yes A c bs k w _ hb h).mono fun e w' ⟨he, j, hw⟩ => ⟨he, by subst hw; exact below_drewN (Below.refl _ _) j⟩
theorem two_of (xs : List UInt8) (k n : Nat) (h : k + 2 ≤ xs.length) (hn : beN ((xs.drop k).take 2) = n) : (xs[k].toNat : Int) * 256 + (xs[k + 1].toNat : Int) = (n : Int) := by
  rw [take_two xs k h, beN_two] at hn
  omega
end Go.Proofs.YteodjajjlgekcaaDoor
