/- The walks of the statements on score. -/
import Derived.Test.YtbcofkiefompgaaScore3
import Derived.Deep.RegionHeld3
namespace Go.Proofs.Ytbcofkiefompgaa
open Go.RowKit

set_option maxRecDepth 4000 in
theorem slives_any (w : World) : Calls Try.prog 54 #[] w fun e w' => e = .returned (.bool true) ∧ Below w.heap.size w w' := by
  have h4 := rd_lit (f := bb) w #[.bool true, .bool true, .bool false, .bool false] 4 [true, true, false, false] rfl (by decide)
  have hA := (Below.refl w.heap.size w).alloc (Nat.le_refl _) (.cells #[.bool true, .bool true, .bool false, .bool false] 4)
  generalize hW : w.alloc (.cells #[.bool true, .bool true, .bool false, .bool false] 4) = V at h4 hA
  have hV : w.heap.size + 1 = V.heap.size := by rw [← hW]; simp
  have h4' : Rd bb V V.heap.size (some ⟨w.heap.size, 0, none⟩) 4 [true, true, false, false] := h4.more (by omega)
  clear h4
  have O2 : ∀ W (hb : Below V.heap.size V W), Hid (Calls Try.prog 50 #[.slice (some ⟨w.heap.size, 0, none⟩) 2 4, .int .i64 2, .int .i64 2] W fun e w' => e = .returned (.agg #[.bool true, .int .i64 2, .int .i64 0]) ∧ Below W.heap.size W w') := fun W hb => Lib.hid (ofs_any [true, true] _ 4 2 2 W ((h4'.next hb).take 2) (by decide))
  have O3 : ∀ W (hb : Below V.heap.size V W), Hid (Calls Try.prog 50 #[.slice (some ⟨w.heap.size, 0, none⟩) 3 4, .int .i64 2, .int .i64 2] W fun e w' => e = .returned (.agg #[.bool true, .int .i64 0, .int .i64 1]) ∧ Below W.heap.size W w') := fun W hb => Lib.hid (ofs_any [true, true, false] _ 4 2 2 W ((h4'.next hb).take 3) (by decide))
  have O4 : ∀ W (hb : Below V.heap.size V W), Hid (Calls Try.prog 50 #[.slice (some ⟨w.heap.size, 0, none⟩) 4 4, .int .i64 2, .int .i64 2] W fun e w' => e = .returned (.agg #[.bool false, .int .i64 0, .int .i64 2]) ∧ Below W.heap.size W w') := fun W hb => Lib.hid (ofs_any [true, true, false, false] _ 4 2 2 W (h4'.next hb) (by decide))
  clear h4' hV
  have hfd : ∀ (u : Bool) (g b : Int) (w : World), (Instr.field 68 (.agg #[.bool u, .int .i64 g, .int .i64 b]) 0).run Try.prog w = .ok (.bool u) w := fun _ _ _ _ => by kernel_rfl
  go_enter Try.func54, Try.ntmps54
  go_wp2_with fail
  refine (O2 V (Below.refl _ _)).out.mono ?_
  rintro e w1 ⟨rfl, hb1⟩
  go_wp2_with fail
  refine (O3 w1 hb1).out.mono ?_
  rintro e w2 ⟨rfl, hb2⟩
  have hb2' := bnext hb1 hb2
  go_wp2_with fail
  refine (O4 w2 hb2').out.mono ?_
  rintro e w3 ⟨rfl, hb3⟩
  go_wp2_with fail
  go_ret
  exact ⟨rfl, hA.trans ((bnext hb2' hb3).mono hA.size)⟩

end Go.Proofs.Ytbcofkiefompgaa
