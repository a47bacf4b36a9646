/- Contracts of the reference's answers for package sum, and of the statement's own check. -/
import Derived.Test.YteodjajjlgekcaaDoorSum1
import Derived.Test.YteodjajjlgekcaaDoorRef1
namespace Go.Proofs.YteodjajjlgekcaaDoor
open Go.RowKit

theorem rones_step (l : List UInt8) (j : Nat) (hj : j % 2 = 0) (h : j < l.length) :
    onesN (l.take (j + 2)) = foldN (onesN (l.take j) + ((l[j]).toNat * 256 + (if h2 : j + 1 < l.length then (l[j+1]).toNat else 0))) := by
  unfold onesN
  rw [foldN_add]
  congr 1
  by_cases h2 : j + 1 < l.length
  · rw [dif_pos h2, take_one l (j + 1) h2, take_one l j h, List.append_assoc, List.singleton_append]
    rw [wsum_app _ _ (by rw [List.length_take]; omega)]
    simp [wsum]
  · rw [dif_neg h2, List.take_of_length_le (by omega)]
    have hl : l = l.take j ++ [l[j]] := by
      rw [← take_one l j h, List.take_of_length_le (by omega)]
    have h3 : wsum l = wsum (l.take j ++ [l[j]]) := congrArg wsum hl
    rw [h3, wsum_app _ _ (by rw [List.length_take]; omega)]
    simp [wsum]

end Go.Proofs.YteodjajjlgekcaaDoor
