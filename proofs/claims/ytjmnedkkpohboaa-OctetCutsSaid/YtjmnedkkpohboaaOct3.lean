/- The statement's own check that the program does anything at all: its contract. -/
import Derived.Test.YtjmnedkkpohboaaOct1
import Derived.Test.YtjmnedkkpohboaaOct2
namespace Go.Proofs.Ytjmnedkkpohboaa
open Go.RowKit

theorem lives_any (w : World) : Calls Try.prog 11 #[] w fun e w' => e = .returned (.bool true) ∧ Below w.heap.size w w' := by
  have h12 : ([] : List UInt8) ++ puts16 [258] = [1, 2] := by decide
  have hn : beN ((([1, 2] : List UInt8).drop 0).take 2) = 258 := by decide
  have hs : (⟨(hexs [171, 5]).toArray⟩ : ByteArray) = ⟨#[97, 98, 48, 53]⟩ := by decide
  have H12 := Lib.hid h12
  have HN := Lib.hid hn
  have HS := Lib.hid hs
  clear h12 hn hs
  go_enter Try.func11, Try.ntmps11
  go_wp2_with (first
    | (go_at_call 13; go_loud (refine (put16_any none 0 [] (some ⟨w.heap.size, 0, none⟩) 1 [258] _ (Rd.nil0 _ _ _) (by simpa using rd_lit w #[.int .u16 258] 24 [(258 : UInt16)] rfl (by simp)) (by simp) (by simp)).mono ?_); rintro e w1 ⟨v1, rfl, hown1, hbel1, hnn1⟩; rw [H12.out] at hown1; obtain ⟨A1, c1, rfl, hrd1⟩ := hown1.rd; clear hown1 hnn1)
    | (go_at_call 8; go_loud (refine (get16_yes A1 c1 [1, 2] 0 _ _ hrd1 (by simp)).mono ?_); rintro e w2 ⟨rfl, nd, rfl⟩; rw [HN.out])
    | (go_at_call 24; go_loud (refine (hex_any (some ⟨w1.heap.size, 0, none⟩) 2 [171, 5] _ (by simpa using rd_lit (w1.drewN nd) #[.int .u8 171, .int .u8 5] 5 [(171 : UInt8), 5] rfl (by simp)) (by simp)).mono ?_); rintro e w3 ⟨rfl, hbel3⟩; rw [HS.out]))
  go_ret
  refine ⟨rfl, ?_⟩
  have h0 : Below w.heap.size w w1 := (((Below.refl _ _).alloc (Nat.le_refl _) _).trans (hbel1.mono (by simp)))
  have hsz := h0.size
  exact ((below_drewN h0 nd).alloc hsz _).trans (hbel3.mono (by simp; omega))
end Go.Proofs.Ytjmnedkkpohboaa
