/- Contracts of ipv4.Part, flow.Of and of the reference's Of. -/
import Derived.Test.YteodjajjlgekcaaDoorBlk
import Derived.Test.YteodjajjlgekcaaDoorSum1
import Derived.Test.YteodjajjlgekcaaDoorProg
import Derived.BigQuiet
import Derived.Deep.QuietTactic
import Derived.Outline
import Derived.RegionTactic
namespace Go.Proofs.YteodjajjlgekcaaDoor
open Go.RowKit

theorem pk_cells {W : World} {g : Nat} {e : TypeId} {v0 v1 v2 v3 v4 v5 v6 v7 v8 v9 v10 : Value} (h : Blk W g [v0, v1, v2, v3, v4, v5, v6, v7, v8, v9, v10] e) : W.cell? ⟨g, 3, none⟩ = some v3 ∧ W.cell? ⟨g, 4, none⟩ = some v4 ∧ W.cell? ⟨g, 6, none⟩ = some v6 ∧ W.cell? ⟨g, 10, none⟩ = some v10 := ⟨h.cell 3, h.cell 4, h.cell 6, h.cell 10⟩
theorem fl_cells {W : World} {g : Nat} {e : TypeId} {v0 v1 v2 v3 v4 : Value} (h : Blk W g [v0, v1, v2, v3, v4] e) : W.cell? ⟨g, 0, none⟩ = some v0 ∧ W.cell? ⟨g, 1, none⟩ = some v1 ∧ W.cell? ⟨g, 2, none⟩ = some v2 ∧ W.cell? ⟨g, 3, none⟩ = some v3 ∧ W.cell? ⟨g, 4, none⟩ = some v4 ∧ W.frozen? ⟨g, 0, none⟩ = false ∧ W.frozen? ⟨g, 1, none⟩ = false ∧ W.frozen? ⟨g, 2, none⟩ = false ∧ W.frozen? ⟨g, 3, none⟩ = false ∧ W.frozen? ⟨g, 4, none⟩ = false := ⟨h.cell 0, h.cell 1, h.cell 2, h.cell 3, h.cell 4, h.frozen 0, h.frozen 1, h.frozen 2, h.frozen 3, h.frozen 4⟩

end Go.Proofs.YteodjajjlgekcaaDoor
