/- Contracts of package ether. -/
import Derived.Test.YtbilgpciphpieaaSum1
import Derived.Test.YtbilgpciphpieaaRef1
import Derived.Deep.RegionHeld3
namespace Go.Proofs.Ytbilgpciphpieaa
open Go.RowKit

/-- A row of bytes that lies inside a block. -/
theorem rd_in (w : World) (g off : Nat) (cs : Array Value) (e : TypeId) (xs : List UInt8) (hg : g = w.heap.size) (h : ∀ j (_ : j < xs.length), cs[off + j]? = some (bv xs[j])) (hl : xs.length ≤ 9223372036854775807) :
    Rd bv (w.alloc (.cells cs e)) (w.alloc (.cells cs e)).heap.size (some ⟨g, off, none⟩) xs.length xs := by
  subst hg
  refine ⟨Nat.le_refl _, hl, fun hh => by simp at hh, fun _ => ⟨w.heap.size, off, rfl, by simp, fun j hj => ?_⟩⟩
  simpa using h j hj

theorem eput_any (d0 d1 d2 d3 d4 d5 s0 s1 s2 s3 s4 s5 : UInt8) (t : UInt16) (A : Option Addr) (c : Nat) (data : List UInt8) (w : World) (hr : Rd bv w w.heap.size A c data) (hl : data.length ≤ 1000000) :
    Calls Try.prog 31 #[.agg #[.int .u8 (d0.toNat : Int), .int .u8 (d1.toNat : Int), .int .u8 (d2.toNat : Int), .int .u8 (d3.toNat : Int), .int .u8 (d4.toNat : Int), .int .u8 (d5.toNat : Int), .int .u8 (s0.toNat : Int), .int .u8 (s1.toNat : Int), .int .u8 (s2.toNat : Int), .int .u8 (s3.toNat : Int), .int .u8 (s4.toNat : Int), .int .u8 (s5.toNat : Int), .int .u16 (t.toNat : Int), .slice A data.length c]] w fun e w' => ∃ L A' c', e = .returned (.slice A' L.length c') ∧ Hid (L = [d0, d1, d2, d3, d4, d5] ++ ([s0, s1, s2, s3, s4, s5] ++ (be16 t ++ data))) ∧ Rd bv w' w'.heap.size A' c' L ∧ Below w.heap.size w w' := by
  obtain ⟨W1, hW1⟩ : ∃ W1, W1 = w.alloc (.cells #[.int .u8 (d0.toNat : Int), .int .u8 (d1.toNat : Int), .int .u8 (d2.toNat : Int), .int .u8 (d3.toNat : Int), .int .u8 (d4.toNat : Int), .int .u8 (d5.toNat : Int), .int .u8 (s0.toNat : Int), .int .u8 (s1.toNat : Int), .int .u8 (s2.toNat : Int), .int .u8 (s3.toNat : Int), .int .u8 (s4.toNat : Int), .int .u8 (s5.toNat : Int), .int .u16 (t.toNat : Int), .slice A data.length c] 49) := ⟨_, rfl⟩
  have hd1 : Rd bv W1 W1.heap.size (some ⟨w.heap.size, 0, none⟩) 6 [d0, d1, d2, d3, d4, d5] := by
    subst hW1
    exact rd_in w _ 0 _ _ [d0, d1, d2, d3, d4, d5] rfl (by intro j hj; match j, hj with | 0, _ | 1, _ | 2, _ | 3, _ | 4, _ | 5, _ => rfl) (by simp)
  have hs1 : Rd bv W1 W1.heap.size (some ⟨w.heap.size, 6, none⟩) 6 [s0, s1, s2, s3, s4, s5] := by
    subst hW1
    exact rd_in w _ 6 _ _ [s0, s1, s2, s3, s4, s5] rfl (by intro j hj; match j, hj with | 0, _ | 1, _ | 2, _ | 3, _ | 4, _ | 5, _ => rfl) (by simp)
  have hdat1 : Rd bv W1 W1.heap.size A c data := by subst hW1; exact hr.nextA _
  have hB1 : Below w.heap.size w W1 := by subst hW1; exact bnextA (Below.refl _ _) _
  have k12 : W1.cell? ⟨w.heap.size, 12, none⟩ = some (.int .u16 (t.toNat : Int)) := by subst hW1; simp
  have k13 : W1.cell? ⟨w.heap.size, 13, none⟩ = some (.slice A data.length c) := by subst hW1; simp
  have hsz : W1.heap.size = w.heap.size + 1 := by subst hW1; simp
  have HS : ∀ W, Below W1.heap.size W1 W → (W.cell? ⟨w.heap.size, 12, none⟩ = some (.int .u16 (t.toNat : Int)) ∧ W.cell? ⟨w.heap.size, 13, none⟩ = some (.slice A data.length c) ∧ Below W1.heap.size W1 W) := by
    intro W h
    exact ⟨(h.cell (by simp; omega)).trans k12, (h.cell (by simp; omega)).trans k13, h⟩
  go_enter Try.func31, Try.ntmps31
  go_wp2_with fail
  rw [← hW1]
  clear hW1 hr k12 k13 hsz
  go_region_held3 (fun W => W.cell? ⟨w.heap.size, 12, none⟩ = some (.int .u16 (t.toNat : Int)) ∧ W.cell? ⟨w.heap.size, 13, none⟩ = some (.slice A data.length c) ∧ Below W1.heap.size W1 W)
    (first
      | exact HS _ (Below.refl _ _).drew
      | exact HS _ (Below.refl _ _)
      | (go_split_ands; exact HS _ (bnextA (by assumption) _))
      | (go_split_ands; exact HS _ (bnext (by assumption) hbel))
      | (go_split_ands; exact HS _ (bnext (bnextA (by assumption) _) hbel)))
    (first
      | (go_at_call 43; go_split_ands; go_loud (refine (put16_nil _ _ [t] _ (lit16_at W1 _ [t] rfl #[.int .u16 (t.toNat : Int)] rfl _ (by simp)).drew (by simp)).mono ?_); rintro e w1 ⟨L1, A1, c1, rfl, HL1, hr1, hbel⟩; have hq := bnext (w0 := W1) (by assumption) hbel)
      | (go_at_call 39; go_split_ands; go_loud (refine (join_any _ _ _ 4 [[d0, d1, d2, d3, d4, d5], [s0, s1, s2, s3, s4, s5], L1, data] (parts_at _ rfl (.cons (hd1.next (by assumption)) (.cons (hs1.next (by assumption)) (.cons hr1 (.cons (hdat1.next (by assumption)) .nil)))) _ rfl _) rfl (by omega) (by omega) (by simp [HL1.out, puts16_len]; omega)).mono ?_); rintro e w2 ⟨L2, A2, c2, rfl, HL2, hr2, hbel⟩; have hq2 := bnext (bnextA hq _) hbel))
  go_wp2_with fail
  go_ret
  exact ⟨L2, A2, c2, rfl, by rw [Hid, HL2.out, HL1.out]; simp [puts16], hr2, bnext hB1 hq2⟩
end Go.Proofs.Ytbilgpciphpieaa
