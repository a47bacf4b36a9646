/- Contracts of package sum, and of the reference's helper Few. -/
import Derived.Test.YteodjajjlgekcaaDoorOct6
import Derived.Test.YteodjajjlgekcaaDoorSumN
namespace Go.Proofs.YteodjajjlgekcaaDoor
open Go.RowKit

theorem few_le (A : Option Addr) (n c m : Nat) (w : World) (h : n ≤ c) (_hc : c ≤ 9223372036854775807) (hm : m ≤ 1000000) :
    Calls Tryd.prog 47 #[.slice A n c, .int .i64 m] w fun e w' => e = .returned (.slice A (min n m) c) ∧ w = w' := by
  by_cases h3 : m < n
  · go_enter Tryd.func47, Tryd.ntmps47
    go_wp2
    go_ret
    exact ⟨by rw [Nat.min_eq_right (by omega)]; rfl, rfl⟩
  · go_enter Tryd.func47, Tryd.ntmps47
    go_wp2
    go_ret
    exact ⟨by rw [Nat.min_eq_left (by omega)]; rfl, rfl⟩
theorem few_row {k : IntKind} {a : Option Addr} {len cap : Nat} {zs : List Int} {w : World} (h : InRow k w a len cap zs) (m : Nat) (hm : m ≤ 1000000) (hk : k = .u8 := by rfl) : ∃ bs : List UInt8, bs.length ≤ m ∧ Rd bv w w.heap.size a cap bs ∧
    Hid (Calls Tryd.prog 47 #[.slice a len cap, .int .i64 m] w fun e w' => e = .returned (.slice a bs.length cap) ∧ w = w') := by
  subst hk
  obtain ⟨bs0, rfl, hb0⟩ := row_rd h
  have hf := few_le a bs0.length cap m w hb0.len hb0.cap hm
  have hmin : min bs0.length m = (bs0.take m).length := by simp [Nat.min_comm]
  rw [hmin] at hf
  exact ⟨bs0.take m, by simp; omega, hb0.take m, hf⟩
theorem few_rd {B : Nat} {A : Option Addr} {c : Nat} {xs : List UInt8} {w : World} (h : Rd bv w B A c xs) (m : Nat) (hm : m ≤ 1000000) :
    Calls Tryd.prog 47 #[.slice A xs.length c, .int .i64 m] w fun e w' => e = .returned (.slice A (xs.take m).length c) ∧ w = w' := by
  have hf := few_le A xs.length c m w h.len h.cap hm
  have hmin : min xs.length m = (xs.take m).length := by simp [Nat.min_comm]
  rwa [hmin] at hf

end Go.Proofs.YteodjajjlgekcaaDoor
