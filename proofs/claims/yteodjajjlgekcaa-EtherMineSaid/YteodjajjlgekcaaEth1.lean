/- Contracts of package ether. -/
import Derived.Test.YteodjajjlgekcaaSum1
import Derived.Test.YteodjajjlgekcaaRef1
import Derived.Deep.RegionHeld3
namespace Go.Proofs.Yteodjajjlgekcaa
open Go.RowKit

/-- A row of bytes that lies inside a block. -/
theorem rd_in (w : World) (g off : Nat) (cs : Array Value) (e : TypeId) (xs : List UInt8) (hg : g = w.heap.size) (h : ∀ j (_ : j < xs.length), cs[off + j]? = some (bv xs[j])) (hl : xs.length ≤ 9223372036854775807) :
    Rd bv (w.alloc (.cells cs e)) (w.alloc (.cells cs e)).heap.size (some ⟨g, off, none⟩) xs.length xs := by
  subst hg
  refine ⟨Nat.le_refl _, hl, fun hh => by simp at hh, fun _ => ⟨w.heap.size, off, rfl, by simp, fun j hj => ?_⟩⟩
  simpa using h j hj

end Go.Proofs.Yteodjajjlgekcaa
