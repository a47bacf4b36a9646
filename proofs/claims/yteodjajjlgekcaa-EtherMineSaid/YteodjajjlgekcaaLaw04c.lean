/- Contracts of ether.Group, Unicast, All, Mine. -/
import Derived.Test.YteodjajjlgekcaaLaw04
namespace Go.Proofs.Yteodjajjlgekcaa
open Go.RowKit

theorem eall_any (w : World) : Calls Try.prog 25 #[] w fun e w' => e = .returned (.agg #[.int .u8 255, .int .u8 255, .int .u8 255, .int .u8 255, .int .u8 255, .int .u8 255]) ∧ Below w.heap.size w w' := by
  go_enter Try.func25, Try.ntmps25
  go_wp2_with fail
  simp [bodyPost, results, Try.results25, go_sem]
  first | exact Below.refl _ _ | exact bnextA (Below.refl _ _) _

theorem egroup_any (m0 m1 m2 m3 m4 m5 : UInt8) (w : World) (b : Bool) (hb : ((m0.toNat : Int) % 2 == 1) = b) : Calls Try.prog 23 #[.agg #[.int .u8 (m0.toNat : Int), .int .u8 (m1.toNat : Int), .int .u8 (m2.toNat : Int), .int .u8 (m3.toNat : Int), .int .u8 (m4.toNat : Int), .int .u8 (m5.toNat : Int)]] w fun e w' => e = .returned (.bool b) ∧ Below w.heap.size w w' := by
  have hk : bits BinOp.and IntKind.u8 (m0.toNat : Int) 1 = ((m0.toNat % 2 : Nat) : Int) := by
    have := u8_and_nat m0.toNat 1 m0.toNat_lt (by omega)
    rw [Nat.and_one_is_mod] at this
    exact this
  go_enter Try.func23, Try.ntmps23
  go_wp2_with fail
  go_ret
  exact ⟨rfl, bnextA (Below.refl _ _) _⟩

theorem eunicast_any (m0 m1 m2 m3 m4 m5 : UInt8) (w : World) (b z : Bool) (hb : ((m0.toNat : Int) % 2 == 1) = b) (hz : ((((m0.toNat : Int) : Int) == 0) && ((((m1.toNat : Int) : Int) == 0) && ((((m2.toNat : Int) : Int) == 0) && ((((m3.toNat : Int) : Int) == 0) && ((((m4.toNat : Int) : Int) == 0) && (((m5.toNat : Int) : Int) == 0)))))) = z) : Calls Try.prog 24 #[.agg #[.int .u8 (m0.toNat : Int), .int .u8 (m1.toNat : Int), .int .u8 (m2.toNat : Int), .int .u8 (m3.toNat : Int), .int .u8 (m4.toNat : Int), .int .u8 (m5.toNat : Int)]] w fun e w' => e = .returned (.bool (!b && !z)) ∧ Below w.heap.size w w' := by
  have HG := fun W => Lib.hid (egroup_any m0 m1 m2 m3 m4 m5 W b hb)
  clear hb
  go_enter Try.func24, Try.ntmps24
  go_wp2_with fail
  refine (HG _).out.mono ?_
  rintro e w1 ⟨rfl, hbel⟩
  have q0 := (blk rfl hbel 0).1
  have q1 := (blk rfl hbel 1).1
  have q2 := (blk rfl hbel 2).1
  have q3 := (blk rfl hbel 3).1
  have q4 := (blk rfl hbel 4).1
  have q5 := (blk rfl hbel 5).1
  simp at q0 q1 q2 q3 q4 q5
  have hB := bnext (bnextA (Below.refl w.heap.size w) _) hbel
  clear hbel HG
  cases b
  · go_wp2_with fail
    go_ret
    exact ⟨rfl, by first | exact hB | exact bnextA hB _⟩
  · go_wp2_with fail
    go_ret
    exact ⟨rfl, by first | exact hB | exact bnextA hB _⟩

set_option maxHeartbeats 2000000 in
theorem emine_any (x0 x1 x2 x3 x4 x5 x6 x7 x8 x9 x10 x11 m0 m1 m2 m3 m4 m5 : UInt8) (t : UInt16) (A : Option Addr) (n c : Nat) (w : World) (p q : Bool) (hp : ((((x0.toNat : Int) : Int) == (m0.toNat : Int)) && ((((x1.toNat : Int) : Int) == (m1.toNat : Int)) && ((((x2.toNat : Int) : Int) == (m2.toNat : Int)) && ((((x3.toNat : Int) : Int) == (m3.toNat : Int)) && ((((x4.toNat : Int) : Int) == (m4.toNat : Int)) && (((x5.toNat : Int) : Int) == (m5.toNat : Int))))))) = p) (hq : ((((x0.toNat : Int) : Int) == 255) && ((((x1.toNat : Int) : Int) == 255) && ((((x2.toNat : Int) : Int) == 255) && ((((x3.toNat : Int) : Int) == 255) && ((((x4.toNat : Int) : Int) == 255) && (((x5.toNat : Int) : Int) == 255)))))) = q) : Calls Try.prog 26 #[.agg #[.int .u8 (x0.toNat : Int), .int .u8 (x1.toNat : Int), .int .u8 (x2.toNat : Int), .int .u8 (x3.toNat : Int), .int .u8 (x4.toNat : Int), .int .u8 (x5.toNat : Int), .int .u8 (x6.toNat : Int), .int .u8 (x7.toNat : Int), .int .u8 (x8.toNat : Int), .int .u8 (x9.toNat : Int), .int .u8 (x10.toNat : Int), .int .u8 (x11.toNat : Int), .int .u16 (t.toNat : Int), .slice A n c], .agg #[.int .u8 (m0.toNat : Int), .int .u8 (m1.toNat : Int), .int .u8 (m2.toNat : Int), .int .u8 (m3.toNat : Int), .int .u8 (m4.toNat : Int), .int .u8 (m5.toNat : Int)]] w fun e w' => e = .returned (.bool (p || q)) ∧ Below w.heap.size w w' := by
  have hBV := bnextA (bnextA (Below.refl w.heap.size w) (.cells #[.int .u8 (x0.toNat : Int), .int .u8 (x1.toNat : Int), .int .u8 (x2.toNat : Int), .int .u8 (x3.toNat : Int), .int .u8 (x4.toNat : Int), .int .u8 (x5.toNat : Int), .int .u8 (x6.toNat : Int), .int .u8 (x7.toNat : Int), .int .u8 (x8.toNat : Int), .int .u8 (x9.toNat : Int), .int .u8 (x10.toNat : Int), .int .u8 (x11.toNat : Int), .int .u16 (t.toNat : Int), .slice A n c] 51)) (.cells #[.int .u8 (m0.toNat : Int), .int .u8 (m1.toNat : Int), .int .u8 (m2.toNat : Int), .int .u8 (m3.toNat : Int), .int .u8 (m4.toNat : Int), .int .u8 (m5.toNat : Int)] 49)
  have hV : ∀ W, W = ((w.alloc (.cells #[.int .u8 (x0.toNat : Int), .int .u8 (x1.toNat : Int), .int .u8 (x2.toNat : Int), .int .u8 (x3.toNat : Int), .int .u8 (x4.toNat : Int), .int .u8 (x5.toNat : Int), .int .u8 (x6.toNat : Int), .int .u8 (x7.toNat : Int), .int .u8 (x8.toNat : Int), .int .u8 (x9.toNat : Int), .int .u8 (x10.toNat : Int), .int .u8 (x11.toNat : Int), .int .u16 (t.toNat : Int), .slice A n c] 51)).alloc (.cells #[.int .u8 (m0.toNat : Int), .int .u8 (m1.toNat : Int), .int .u8 (m2.toNat : Int), .int .u8 (m3.toNat : Int), .int .u8 (m4.toNat : Int), .int .u8 (m5.toNat : Int)] 49)) → w.heap.size < W.heap.size ∧ (W.cell? ⟨w.heap.size, 0, none⟩ = some (.int .u8 (x0.toNat : Int)) ∧ W.cell? ⟨w.heap.size, 1, none⟩ = some (.int .u8 (x1.toNat : Int)) ∧ W.cell? ⟨w.heap.size, 2, none⟩ = some (.int .u8 (x2.toNat : Int)) ∧ W.cell? ⟨w.heap.size, 3, none⟩ = some (.int .u8 (x3.toNat : Int)) ∧ W.cell? ⟨w.heap.size, 4, none⟩ = some (.int .u8 (x4.toNat : Int)) ∧ W.cell? ⟨w.heap.size, 5, none⟩ = some (.int .u8 (x5.toNat : Int))) ∧ (W.cell? ⟨w.heap.size + 1, 0, none⟩ = some (.int .u8 (m0.toNat : Int))) ∧ (W.cell? ⟨w.heap.size + 1, 1, none⟩ = some (.int .u8 (m1.toNat : Int))) ∧ (W.cell? ⟨w.heap.size + 1, 2, none⟩ = some (.int .u8 (m2.toNat : Int))) ∧ (W.cell? ⟨w.heap.size + 1, 3, none⟩ = some (.int .u8 (m3.toNat : Int))) ∧ (W.cell? ⟨w.heap.size + 1, 4, none⟩ = some (.int .u8 (m4.toNat : Int))) ∧ (W.cell? ⟨w.heap.size + 1, 5, none⟩ = some (.int .u8 (m5.toNat : Int))) := by
    intro W h
    subst h
    refine ⟨?_, ?_, ?_⟩ <;> simp <;> omega
  cases p
  ·
    go_enter Try.func26, Try.ntmps26
    go_wp2_with fail
    generalize hW : ((w.alloc (.cells #[.int .u8 (x0.toNat : Int), .int .u8 (x1.toNat : Int), .int .u8 (x2.toNat : Int), .int .u8 (x3.toNat : Int), .int .u8 (x4.toNat : Int), .int .u8 (x5.toNat : Int), .int .u8 (x6.toNat : Int), .int .u8 (x7.toNat : Int), .int .u8 (x8.toNat : Int), .int .u8 (x9.toNat : Int), .int .u8 (x10.toNat : Int), .int .u8 (x11.toNat : Int), .int .u16 (t.toNat : Int), .slice A n c] 51)).alloc (.cells #[.int .u8 (m0.toNat : Int), .int .u8 (m1.toNat : Int), .int .u8 (m2.toNat : Int), .int .u8 (m3.toNat : Int), .int .u8 (m4.toNat : Int), .int .u8 (m5.toNat : Int)] 49)) = V at hBV ⊢
    obtain ⟨hlt, ⟨s0, s1, s2, s3, s4, s5⟩, q0, q1, q2, q3, q4, q5⟩ := hV V hW.symm
    clear hW hV
    have HS : ∀ W, Below V.heap.size V W → W.cell? ⟨w.heap.size, 0, none⟩ = some (.int .u8 (x0.toNat : Int)) ∧ W.cell? ⟨w.heap.size, 1, none⟩ = some (.int .u8 (x1.toNat : Int)) ∧ W.cell? ⟨w.heap.size, 2, none⟩ = some (.int .u8 (x2.toNat : Int)) ∧ W.cell? ⟨w.heap.size, 3, none⟩ = some (.int .u8 (x3.toNat : Int)) ∧ W.cell? ⟨w.heap.size, 4, none⟩ = some (.int .u8 (x4.toNat : Int)) ∧ W.cell? ⟨w.heap.size, 5, none⟩ = some (.int .u8 (x5.toNat : Int)) := fun W h => ⟨(h.cell hlt).trans s0, (h.cell hlt).trans s1, (h.cell hlt).trans s2, (h.cell hlt).trans s3, (h.cell hlt).trans s4, (h.cell hlt).trans s5⟩
    first | (go_region_with (first
      | (go_at_call 25; (with_reducible refine (eall_any _).mono ?_); rintro e w1 ⟨rfl, hbel0⟩; have hbel : Below V.heap.size V w1 := Below.undrew hbel0; obtain ⟨s0, s1, s2, s3, s4, s5⟩ := HS _ hbel)
      | fail)) | fail
    all_goals go_wp2_with fail
    all_goals go_ret
    all_goals exact ⟨rfl, bnext hBV hbel⟩
  ·
    go_enter Try.func26, Try.ntmps26
    go_wp2_with fail
    generalize hW : ((w.alloc (.cells #[.int .u8 (x0.toNat : Int), .int .u8 (x1.toNat : Int), .int .u8 (x2.toNat : Int), .int .u8 (x3.toNat : Int), .int .u8 (x4.toNat : Int), .int .u8 (x5.toNat : Int), .int .u8 (x6.toNat : Int), .int .u8 (x7.toNat : Int), .int .u8 (x8.toNat : Int), .int .u8 (x9.toNat : Int), .int .u8 (x10.toNat : Int), .int .u8 (x11.toNat : Int), .int .u16 (t.toNat : Int), .slice A n c] 51)).alloc (.cells #[.int .u8 (m0.toNat : Int), .int .u8 (m1.toNat : Int), .int .u8 (m2.toNat : Int), .int .u8 (m3.toNat : Int), .int .u8 (m4.toNat : Int), .int .u8 (m5.toNat : Int)] 49)) = V at hBV ⊢
    obtain ⟨hlt, ⟨s0, s1, s2, s3, s4, s5⟩, q0, q1, q2, q3, q4, q5⟩ := hV V hW.symm
    clear hW hV
    have HS : ∀ W, Below V.heap.size V W → W.cell? ⟨w.heap.size, 0, none⟩ = some (.int .u8 (x0.toNat : Int)) ∧ W.cell? ⟨w.heap.size, 1, none⟩ = some (.int .u8 (x1.toNat : Int)) ∧ W.cell? ⟨w.heap.size, 2, none⟩ = some (.int .u8 (x2.toNat : Int)) ∧ W.cell? ⟨w.heap.size, 3, none⟩ = some (.int .u8 (x3.toNat : Int)) ∧ W.cell? ⟨w.heap.size, 4, none⟩ = some (.int .u8 (x4.toNat : Int)) ∧ W.cell? ⟨w.heap.size, 5, none⟩ = some (.int .u8 (x5.toNat : Int)) := fun W h => ⟨(h.cell hlt).trans s0, (h.cell hlt).trans s1, (h.cell hlt).trans s2, (h.cell hlt).trans s3, (h.cell hlt).trans s4, (h.cell hlt).trans s5⟩
    first | (go_region_with fail) | fail
    all_goals go_wp2_with fail
    all_goals go_ret
    all_goals exact ⟨rfl, hBV.drew⟩
end Go.Proofs.Yteodjajjlgekcaa
