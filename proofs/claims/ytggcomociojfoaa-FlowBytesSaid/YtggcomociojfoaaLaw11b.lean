/- The walk of the statement on which flow a packet is of. -/
import Derived.Test.YtggcomociojfoaaLaw11
namespace Go.Proofs.Ytggcomociojfoaa
open Go.RowKit

set_option maxRecDepth 8000 in
theorem flives_any (w : World) : Calls Try.prog 15 #[] w fun e w' => e = .returned (.bool true) ∧ Below w.heap.size w w' := by
  have h4 := rd_lit (f := bv) w #[.int .u8 0, .int .u8 10, .int .u8 0, .int .u8 20] 5 [0, 10, 0, 20] rfl (by decide)
  have hA := (Below.refl w.heap.size w).alloc (Nat.le_refl _) (.cells #[.int .u8 0, .int .u8 10, .int .u8 0, .int .u8 20] 5)
  have h5 : Rd bv (w.alloc (.cells #[.int .u8 0, .int .u8 10, .int .u8 0, .int .u8 20] 5)) (w.alloc (.cells #[.int .u8 0, .int .u8 10, .int .u8 0, .int .u8 20] 5)).heap.size (some ⟨w.heap.size, 0, none⟩) 4 [0, 10, 0, 20] := h4.more (by simp)
  have HF : Hid (Calls Try.prog 42 #[.agg #[.int .u8 0, .int .u16 0, .bool false, .bool false, .int .u16 0, .int .u8 0, .int .u8 6, .int .u32 1, .int .u32 2, .slice none 0 0, .slice (some ⟨w.heap.size, 0, none⟩) 4 4]] (w.alloc (.cells #[.int .u8 0, .int .u8 10, .int .u8 0, .int .u8 20] 5)) fun e w' => e = .returned (.tuple #[.agg #[.int .u32 1, .int .u32 2, .int .u16 10, .int .u16 20, .int .u8 6], .int .i64 0]) ∧ Below (w.alloc (.cells #[.int .u8 0, .int .u8 10, .int .u8 0, .int .u8 20] 5)).heap.size (w.alloc (.cells #[.int .u8 0, .int .u8 10, .int .u8 0, .int .u8 20] 5)) w') :=
    fof_ok6 (.int .u8 0) (.int .u16 0) (.bool false) (.int .u8 0) (.slice none 0 0) 0 1 2 (some ⟨w.heap.size, 0, none⟩) 4 [0, 10, 0, 20] rfl _ h5 (by decide)
  clear h4 h5
  go_enter Try.func15, Try.ntmps15
  go_wp2_with fail
  refine HF.out.mono ?_
  rintro e w1 ⟨rfl, hb⟩
  have hB1 := bnext hA hb
  go_wp2_with fail
  go_ret
  exact ⟨rfl, bnextA hB1 _⟩

end Go.Proofs.Ytggcomociojfoaa
