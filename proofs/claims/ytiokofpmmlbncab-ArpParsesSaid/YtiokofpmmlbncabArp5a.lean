/- Contracts of arp's Ask, Answer and Frame. -/
import Derived.Test.YtiokofpmmlbncabArp2
import Derived.Test.YtiokofpmmlbncabKit4
import Derived.Test.YtiokofpmmlbncabReg2
namespace Go.Proofs.Ytiokofpmmlbncab
open Go.RowKit

theorem Rd.oth {α : Type} {f : α → Value} {w : World} {B b off c g : Nat} {xs : List α} (h : Rd f w B (some ⟨b, off, none⟩) c xs) (hne : b ≠ g) (i : Nat) (v : Value) : Rd f (w.setCell ⟨g, i, none⟩ v) B (some ⟨b, off, none⟩) c xs := by
  refine ⟨h.1, h.2.1, h.2.2.1, fun hn => ?_⟩
  obtain ⟨b', off', e, hb, hc⟩ := h.2.2.2 hn
  injection e with e
  injection e with e1 e2 e3
  subst e1 e2
  refine ⟨b, off, rfl, hb, fun j hj => ?_⟩
  rw [← hc j hj]
  unfold World.cell?
  rw [Below.heap_setCell w ⟨g, i, none⟩ v b hne]
theorem ask_any (m0 m1 m2 m3 m4 m5 : UInt8) (s d : UInt32) (w : World) :
    Calls Try.prog 30 #[.agg #[.int .u8 (m0.toNat : Int), .int .u8 (m1.toNat : Int), .int .u8 (m2.toNat : Int), .int .u8 (m3.toNat : Int), .int .u8 (m4.toNat : Int), .int .u8 (m5.toNat : Int)], .int .u32 (s.toNat : Int), .int .u32 (d.toNat : Int)] w fun e w' => e = .returned (.agg #[.int .u16 1, .int .u8 (m0.toNat : Int), .int .u8 (m1.toNat : Int), .int .u8 (m2.toNat : Int), .int .u8 (m3.toNat : Int), .int .u8 (m4.toNat : Int), .int .u8 (m5.toNat : Int), .int .u32 (s.toNat : Int), .int .u8 0, .int .u8 0, .int .u8 0, .int .u8 0, .int .u8 0, .int .u8 0, .int .u32 (d.toNat : Int)]) ∧ Below w.heap.size w w' := by
  have hB := bnextA (bnextA (Below.refl w.heap.size w) (.cells #[.int .u8 (m0.toNat : Int), .int .u8 (m1.toNat : Int), .int .u8 (m2.toNat : Int), .int .u8 (m3.toNat : Int), .int .u8 (m4.toNat : Int), .int .u8 (m5.toNat : Int)] 45)) (.cells #[.int .u16 1, .int .u8 (m0.toNat : Int), .int .u8 (m1.toNat : Int), .int .u8 (m2.toNat : Int), .int .u8 (m3.toNat : Int), .int .u8 (m4.toNat : Int), .int .u8 (m5.toNat : Int), .int .u32 (s.toNat : Int), .int .u8 0, .int .u8 0, .int .u8 0, .int .u8 0, .int .u8 0, .int .u8 0, .int .u32 (d.toNat : Int)] 47)
  go_enter Try.func30, Try.ntmps30
  go_wp2_with fail
  simp [bodyPost, results, Try.results30, go_sem, *]
theorem answer_any (o : UInt16) (m0 m1 m2 m3 m4 m5 : UInt8) (s : UInt32) (n0 n1 n2 n3 n4 n5 : UInt8) (d : UInt32) (k0 k1 k2 k3 k4 k5 : UInt8) (w : World) :
    Calls Try.prog 31 #[.agg #[.int .u16 (o.toNat : Int), .int .u8 (m0.toNat : Int), .int .u8 (m1.toNat : Int), .int .u8 (m2.toNat : Int), .int .u8 (m3.toNat : Int), .int .u8 (m4.toNat : Int), .int .u8 (m5.toNat : Int), .int .u32 (s.toNat : Int), .int .u8 (n0.toNat : Int), .int .u8 (n1.toNat : Int), .int .u8 (n2.toNat : Int), .int .u8 (n3.toNat : Int), .int .u8 (n4.toNat : Int), .int .u8 (n5.toNat : Int), .int .u32 (d.toNat : Int)], .agg #[.int .u8 (k0.toNat : Int), .int .u8 (k1.toNat : Int), .int .u8 (k2.toNat : Int), .int .u8 (k3.toNat : Int), .int .u8 (k4.toNat : Int), .int .u8 (k5.toNat : Int)]] w fun e w' => e = .returned (.agg #[.int .u16 2, .int .u8 (k0.toNat : Int), .int .u8 (k1.toNat : Int), .int .u8 (k2.toNat : Int), .int .u8 (k3.toNat : Int), .int .u8 (k4.toNat : Int), .int .u8 (k5.toNat : Int), .int .u32 (d.toNat : Int), .int .u8 (m0.toNat : Int), .int .u8 (m1.toNat : Int), .int .u8 (m2.toNat : Int), .int .u8 (m3.toNat : Int), .int .u8 (m4.toNat : Int), .int .u8 (m5.toNat : Int), .int .u32 (s.toNat : Int)]) ∧ Below w.heap.size w w' := by
  have hB := bnextA (bnextA (bnextA (Below.refl w.heap.size w) (.cells #[.int .u16 (o.toNat : Int), .int .u8 (m0.toNat : Int), .int .u8 (m1.toNat : Int), .int .u8 (m2.toNat : Int), .int .u8 (m3.toNat : Int), .int .u8 (m4.toNat : Int), .int .u8 (m5.toNat : Int), .int .u32 (s.toNat : Int), .int .u8 (n0.toNat : Int), .int .u8 (n1.toNat : Int), .int .u8 (n2.toNat : Int), .int .u8 (n3.toNat : Int), .int .u8 (n4.toNat : Int), .int .u8 (n5.toNat : Int), .int .u32 (d.toNat : Int)] 47)) (.cells #[.int .u8 (k0.toNat : Int), .int .u8 (k1.toNat : Int), .int .u8 (k2.toNat : Int), .int .u8 (k3.toNat : Int), .int .u8 (k4.toNat : Int), .int .u8 (k5.toNat : Int)] 45)) (.cells #[.int .u16 2, .int .u8 (k0.toNat : Int), .int .u8 (k1.toNat : Int), .int .u8 (k2.toNat : Int), .int .u8 (k3.toNat : Int), .int .u8 (k4.toNat : Int), .int .u8 (k5.toNat : Int), .int .u32 (d.toNat : Int), .int .u8 (m0.toNat : Int), .int .u8 (m1.toNat : Int), .int .u8 (m2.toNat : Int), .int .u8 (m3.toNat : Int), .int .u8 (m4.toNat : Int), .int .u8 (m5.toNat : Int), .int .u32 (s.toNat : Int)] 47)
  go_enter Try.func31, Try.ntmps31
  go_wp2_with fail
  simp [bodyPost, results, Try.results31, go_sem, *]

set_option maxHeartbeats 4000000 in
theorem aframe_any (o : UInt16) (m0 m1 m2 m3 m4 m5 : UInt8) (s : UInt32) (n0 n1 n2 n3 n4 n5 : UInt8) (d : UInt32) (k0 k1 k2 k3 k4 k5 : UInt8) (w : World) :
    Calls Try.prog 32 #[.agg #[.int .u16 (o.toNat : Int), .int .u8 (m0.toNat : Int), .int .u8 (m1.toNat : Int), .int .u8 (m2.toNat : Int), .int .u8 (m3.toNat : Int), .int .u8 (m4.toNat : Int), .int .u8 (m5.toNat : Int), .int .u32 (s.toNat : Int), .int .u8 (n0.toNat : Int), .int .u8 (n1.toNat : Int), .int .u8 (n2.toNat : Int), .int .u8 (n3.toNat : Int), .int .u8 (n4.toNat : Int), .int .u8 (n5.toNat : Int), .int .u32 (d.toNat : Int)], .agg #[.int .u8 (k0.toNat : Int), .int .u8 (k1.toNat : Int), .int .u8 (k2.toNat : Int), .int .u8 (k3.toNat : Int), .int .u8 (k4.toNat : Int), .int .u8 (k5.toNat : Int)]] w fun e w' => ∃ L A c, e = .returned (.agg #[.int .u8 (k0.toNat : Int), .int .u8 (k1.toNat : Int), .int .u8 (k2.toNat : Int), .int .u8 (k3.toNat : Int), .int .u8 (k4.toNat : Int), .int .u8 (k5.toNat : Int), .int .u8 (m0.toNat : Int), .int .u8 (m1.toNat : Int), .int .u8 (m2.toNat : Int), .int .u8 (m3.toNat : Int), .int .u8 (m4.toNat : Int), .int .u8 (m5.toNat : Int), .int .u16 2054, .slice A L.length c]) ∧ Hid (L = arpB o m0 m1 m2 m3 m4 m5 s n0 n1 n2 n3 n4 n5 d) ∧ Rd bv w' w'.heap.size A c L ∧ Below w.heap.size w w' := by
  have hB := bnextA (bnextA (bnextA (Below.refl w.heap.size w) (.cells #[.int .u16 (o.toNat : Int), .int .u8 (m0.toNat : Int), .int .u8 (m1.toNat : Int), .int .u8 (m2.toNat : Int), .int .u8 (m3.toNat : Int), .int .u8 (m4.toNat : Int), .int .u8 (m5.toNat : Int), .int .u32 (s.toNat : Int), .int .u8 (n0.toNat : Int), .int .u8 (n1.toNat : Int), .int .u8 (n2.toNat : Int), .int .u8 (n3.toNat : Int), .int .u8 (n4.toNat : Int), .int .u8 (n5.toNat : Int), .int .u32 (d.toNat : Int)] 47)) (.cells #[.int .u8 (k0.toNat : Int), .int .u8 (k1.toNat : Int), .int .u8 (k2.toNat : Int), .int .u8 (k3.toNat : Int), .int .u8 (k4.toNat : Int), .int .u8 (k5.toNat : Int)] 45)) (.cells #[.int .u8 0, .int .u8 0, .int .u8 0, .int .u8 0, .int .u8 0, .int .u8 0, .int .u8 0, .int .u8 0, .int .u8 0, .int .u8 0, .int .u8 0, .int .u8 0, .int .u16 0, .slice none 0 0] 59)
  have K1 := ((Blk.new w #[.int .u16 (o.toNat : Int), .int .u8 (m0.toNat : Int), .int .u8 (m1.toNat : Int), .int .u8 (m2.toNat : Int), .int .u8 (m3.toNat : Int), .int .u8 (m4.toNat : Int), .int .u8 (m5.toNat : Int), .int .u32 (s.toNat : Int), .int .u8 (n0.toNat : Int), .int .u8 (n1.toNat : Int), .int .u8 (n2.toNat : Int), .int .u8 (n3.toNat : Int), .int .u8 (n4.toNat : Int), .int .u8 (n5.toNat : Int), .int .u32 (d.toNat : Int)] 47).alloc (.cells #[.int .u8 (k0.toNat : Int), .int .u8 (k1.toNat : Int), .int .u8 (k2.toNat : Int), .int .u8 (k3.toNat : Int), .int .u8 (k4.toNat : Int), .int .u8 (k5.toNat : Int)] 45)).alloc (.cells #[.int .u8 0, .int .u8 0, .int .u8 0, .int .u8 0, .int .u8 0, .int .u8 0, .int .u8 0, .int .u8 0, .int .u8 0, .int .u8 0, .int .u8 0, .int .u8 0, .int .u16 0, .slice none 0 0] 59)
  have K2 : Blk (((w.alloc (.cells #[.int .u16 (o.toNat : Int), .int .u8 (m0.toNat : Int), .int .u8 (m1.toNat : Int), .int .u8 (m2.toNat : Int), .int .u8 (m3.toNat : Int), .int .u8 (m4.toNat : Int), .int .u8 (m5.toNat : Int), .int .u32 (s.toNat : Int), .int .u8 (n0.toNat : Int), .int .u8 (n1.toNat : Int), .int .u8 (n2.toNat : Int), .int .u8 (n3.toNat : Int), .int .u8 (n4.toNat : Int), .int .u8 (n5.toNat : Int), .int .u32 (d.toNat : Int)] 47)).alloc (.cells #[.int .u8 (k0.toNat : Int), .int .u8 (k1.toNat : Int), .int .u8 (k2.toNat : Int), .int .u8 (k3.toNat : Int), .int .u8 (k4.toNat : Int), .int .u8 (k5.toNat : Int)] 45)).alloc (.cells #[.int .u8 0, .int .u8 0, .int .u8 0, .int .u8 0, .int .u8 0, .int .u8 0, .int .u8 0, .int .u8 0, .int .u8 0, .int .u8 0, .int .u8 0, .int .u8 0, .int .u16 0, .slice none 0 0] 59)) (w.heap.size + 1) [.int .u8 (k0.toNat : Int), .int .u8 (k1.toNat : Int), .int .u8 (k2.toNat : Int), .int .u8 (k3.toNat : Int), .int .u8 (k4.toNat : Int), .int .u8 (k5.toNat : Int)] 45 := by
    have := (Blk.new (w.alloc (.cells #[.int .u16 (o.toNat : Int), .int .u8 (m0.toNat : Int), .int .u8 (m1.toNat : Int), .int .u8 (m2.toNat : Int), .int .u8 (m3.toNat : Int), .int .u8 (m4.toNat : Int), .int .u8 (m5.toNat : Int), .int .u32 (s.toNat : Int), .int .u8 (n0.toNat : Int), .int .u8 (n1.toNat : Int), .int .u8 (n2.toNat : Int), .int .u8 (n3.toNat : Int), .int .u8 (n4.toNat : Int), .int .u8 (n5.toNat : Int), .int .u32 (d.toNat : Int)] 47)) #[.int .u8 (k0.toNat : Int), .int .u8 (k1.toNat : Int), .int .u8 (k2.toNat : Int), .int .u8 (k3.toNat : Int), .int .u8 (k4.toNat : Int), .int .u8 (k5.toNat : Int)] 45).alloc (.cells #[.int .u8 0, .int .u8 0, .int .u8 0, .int .u8 0, .int .u8 0, .int .u8 0, .int .u8 0, .int .u8 0, .int .u8 0, .int .u8 0, .int .u8 0, .int .u8 0, .int .u16 0, .slice none 0 0] 59)
    simpa using this
  have K3 : Blk (((w.alloc (.cells #[.int .u16 (o.toNat : Int), .int .u8 (m0.toNat : Int), .int .u8 (m1.toNat : Int), .int .u8 (m2.toNat : Int), .int .u8 (m3.toNat : Int), .int .u8 (m4.toNat : Int), .int .u8 (m5.toNat : Int), .int .u32 (s.toNat : Int), .int .u8 (n0.toNat : Int), .int .u8 (n1.toNat : Int), .int .u8 (n2.toNat : Int), .int .u8 (n3.toNat : Int), .int .u8 (n4.toNat : Int), .int .u8 (n5.toNat : Int), .int .u32 (d.toNat : Int)] 47)).alloc (.cells #[.int .u8 (k0.toNat : Int), .int .u8 (k1.toNat : Int), .int .u8 (k2.toNat : Int), .int .u8 (k3.toNat : Int), .int .u8 (k4.toNat : Int), .int .u8 (k5.toNat : Int)] 45)).alloc (.cells #[.int .u8 0, .int .u8 0, .int .u8 0, .int .u8 0, .int .u8 0, .int .u8 0, .int .u8 0, .int .u8 0, .int .u8 0, .int .u8 0, .int .u8 0, .int .u8 0, .int .u16 0, .slice none 0 0] 59)) (w.heap.size + 1 + 1) [.int .u8 0, .int .u8 0, .int .u8 0, .int .u8 0, .int .u8 0, .int .u8 0, .int .u8 0, .int .u8 0, .int .u8 0, .int .u8 0, .int .u8 0, .int .u8 0, .int .u16 0, .slice none 0 0] 59 := by
    have := Blk.new ((w.alloc (.cells #[.int .u16 (o.toNat : Int), .int .u8 (m0.toNat : Int), .int .u8 (m1.toNat : Int), .int .u8 (m2.toNat : Int), .int .u8 (m3.toNat : Int), .int .u8 (m4.toNat : Int), .int .u8 (m5.toNat : Int), .int .u32 (s.toNat : Int), .int .u8 (n0.toNat : Int), .int .u8 (n1.toNat : Int), .int .u8 (n2.toNat : Int), .int .u8 (n3.toNat : Int), .int .u8 (n4.toNat : Int), .int .u8 (n5.toNat : Int), .int .u32 (d.toNat : Int)] 47)).alloc (.cells #[.int .u8 (k0.toNat : Int), .int .u8 (k1.toNat : Int), .int .u8 (k2.toNat : Int), .int .u8 (k3.toNat : Int), .int .u8 (k4.toNat : Int), .int .u8 (k5.toNat : Int)] 45)) #[.int .u8 0, .int .u8 0, .int .u8 0, .int .u8 0, .int .u8 0, .int .u8 0, .int .u8 0, .int .u8 0, .int .u8 0, .int .u8 0, .int .u8 0, .int .u8 0, .int .u16 0, .slice none 0 0] 59
    simpa using this
  go_enter Try.func32, Try.ntmps32
  go_wp2_with fail
  generalize ((w.alloc (.cells #[.int .u16 (o.toNat : Int), .int .u8 (m0.toNat : Int), .int .u8 (m1.toNat : Int), .int .u8 (m2.toNat : Int), .int .u8 (m3.toNat : Int), .int .u8 (m4.toNat : Int), .int .u8 (m5.toNat : Int), .int .u32 (s.toNat : Int), .int .u8 (n0.toNat : Int), .int .u8 (n1.toNat : Int), .int .u8 (n2.toNat : Int), .int .u8 (n3.toNat : Int), .int .u8 (n4.toNat : Int), .int .u8 (n5.toNat : Int), .int .u32 (d.toNat : Int)] 47)).alloc (.cells #[.int .u8 (k0.toNat : Int), .int .u8 (k1.toNat : Int), .int .u8 (k2.toNat : Int), .int .u8 (k3.toNat : Int), .int .u8 (k4.toNat : Int), .int .u8 (k5.toNat : Int)] 45)).alloc (.cells #[.int .u8 0, .int .u8 0, .int .u8 0, .int .u8 0, .int .u8 0, .int .u8 0, .int .u8 0, .int .u8 0, .int .u8 0, .int .u8 0, .int .u8 0, .int .u8 0, .int .u16 0, .slice none 0 0] 59) = V at *
  have HCC : ∀ W, Below V.heap.size V W → (W.cell? ⟨w.heap.size, 0, none⟩ = some (.int .u16 (o.toNat : Int)) ∧ W.cell? ⟨w.heap.size, 1, none⟩ = some (.int .u8 (m0.toNat : Int)) ∧ W.cell? ⟨w.heap.size, 2, none⟩ = some (.int .u8 (m1.toNat : Int)) ∧ W.cell? ⟨w.heap.size, 3, none⟩ = some (.int .u8 (m2.toNat : Int)) ∧ W.cell? ⟨w.heap.size, 4, none⟩ = some (.int .u8 (m3.toNat : Int)) ∧ W.cell? ⟨w.heap.size, 5, none⟩ = some (.int .u8 (m4.toNat : Int)) ∧ W.cell? ⟨w.heap.size, 6, none⟩ = some (.int .u8 (m5.toNat : Int)) ∧ W.cell? ⟨w.heap.size, 7, none⟩ = some (.int .u32 (s.toNat : Int)) ∧ W.cell? ⟨w.heap.size, 8, none⟩ = some (.int .u8 (n0.toNat : Int)) ∧ W.cell? ⟨w.heap.size, 9, none⟩ = some (.int .u8 (n1.toNat : Int)) ∧ W.cell? ⟨w.heap.size, 10, none⟩ = some (.int .u8 (n2.toNat : Int)) ∧ W.cell? ⟨w.heap.size, 11, none⟩ = some (.int .u8 (n3.toNat : Int)) ∧ W.cell? ⟨w.heap.size, 12, none⟩ = some (.int .u8 (n4.toNat : Int)) ∧ W.cell? ⟨w.heap.size, 13, none⟩ = some (.int .u8 (n5.toNat : Int)) ∧ W.cell? ⟨w.heap.size, 14, none⟩ = some (.int .u32 (d.toNat : Int)) ∧ W.cell? ⟨w.heap.size + 1, 0, none⟩ = some (.int .u8 (k0.toNat : Int)) ∧ W.cell? ⟨w.heap.size + 1, 1, none⟩ = some (.int .u8 (k1.toNat : Int)) ∧ W.cell? ⟨w.heap.size + 1, 2, none⟩ = some (.int .u8 (k2.toNat : Int)) ∧ W.cell? ⟨w.heap.size + 1, 3, none⟩ = some (.int .u8 (k3.toNat : Int)) ∧ W.cell? ⟨w.heap.size + 1, 4, none⟩ = some (.int .u8 (k4.toNat : Int)) ∧ W.cell? ⟨w.heap.size + 1, 5, none⟩ = some (.int .u8 (k5.toNat : Int))) := by
    intro W h
    obtain ⟨p0, p1, p2, p3, p4, p5, p6, p7, p8, p9, p10, p11, p12, p13, p14, -⟩ := (K1.next h).get15
    obtain ⟨q0, q1, q2, q3, q4, q5, -⟩ := (K2.next h).get6
    exact ⟨p0, p1, p2, p3, p4, p5, p6, p7, p8, p9, p10, p11, p12, p13, p14, q0, q1, q2, q3, q4, q5⟩
  refine region_put_last (by kernel_rfl) (by kernel_rfl) (by kernel_rfl) 11 rfl (by kernel_rfl) V (fun i v W => match i with
      | 0 => v = .agg #[.int .u8 (k0.toNat : Int), .int .u8 (k1.toNat : Int), .int .u8 (k2.toNat : Int), .int .u8 (k3.toNat : Int), .int .u8 (k4.toNat : Int), .int .u8 (k5.toNat : Int)]
      | 1 => v = .pointer (some ⟨w.heap.size, 1, none⟩)
      | 2 => v = .agg #[.int .u8 (m0.toNat : Int), .int .u8 (m1.toNat : Int), .int .u8 (m2.toNat : Int), .int .u8 (m3.toNat : Int), .int .u8 (m4.toNat : Int), .int .u8 (m5.toNat : Int)]
      | 3 => v = .agg #[.int .u16 (o.toNat : Int), .int .u8 (m0.toNat : Int), .int .u8 (m1.toNat : Int), .int .u8 (m2.toNat : Int), .int .u8 (m3.toNat : Int), .int .u8 (m4.toNat : Int), .int .u8 (m5.toNat : Int), .int .u32 (s.toNat : Int), .int .u8 (n0.toNat : Int), .int .u8 (n1.toNat : Int), .int .u8 (n2.toNat : Int), .int .u8 (n3.toNat : Int), .int .u8 (n4.toNat : Int), .int .u8 (n5.toNat : Int), .int .u32 (d.toNat : Int)]
      | 4 => ∃ L A c, v = .slice A L.length c ∧ Hid (L = arpB o m0 m1 m2 m3 m4 m5 s n0 n1 n2 n3 n4 n5 d) ∧ Rd bv W W.heap.size A c L
      | 5 => ∃ L A c, v = .agg #[.int .u8 (k0.toNat : Int), .int .u8 (k1.toNat : Int), .int .u8 (k2.toNat : Int), .int .u8 (k3.toNat : Int), .int .u8 (k4.toNat : Int), .int .u8 (k5.toNat : Int), .int .u8 (m0.toNat : Int), .int .u8 (m1.toNat : Int), .int .u8 (m2.toNat : Int), .int .u8 (m3.toNat : Int), .int .u8 (m4.toNat : Int), .int .u8 (m5.toNat : Int), .int .u16 2054, .slice A L.length c] ∧ Hid (L = arpB o m0 m1 m2 m3 m4 m5 s n0 n1 n2 n3 n4 n5 d) ∧ Rd bv W W.heap.size A c L
      | _ => True) (Below.refl _ _) 6 rfl (by kernel_rfl) (by intro o h; obtain rfl := Option.some.inj h; rfl) ?_ ?_ ?_
  · intro i v W W' h hb
    match i, h with
    | 0, h => exact h
    | 1, h => exact h
    | 2, h => exact h
    | 3, h => exact h
    | 4, h => obtain ⟨L, A, c, h1, h2, h3⟩ := h; exact ⟨L, A, c, h1, h2, h3.next hb⟩
    | 5, h => obtain ⟨L, A, c, h1, h2, h3⟩ := h; exact ⟨L, A, c, h1, h2, h3.next hb⟩
    | _ + 6, _ => trivial
  · intro i oo uu W him hoo hVW hd
    rcases i with _|_|_|_|_|_|i
    · obtain rfl := Option.some.inj hoo
      refine .inl ⟨wanted_none rfl, ?_⟩
      generalize hev : Act.eval _ = ev
      have ec : ∀ c, ev (.const c) = c := fun c => by rw [← hev]; rfl
      have e3 : ev (.tmp 3) = .pointer (some ⟨w.heap.size + 1, 0, none⟩) := by rw [← hev]; exact eval_old (by kernel_rfl) 11 rfl (by decide) rfl
      clear hev hd
      obtain ⟨cc0, cc1, cc2, cc3, cc4, cc5, cc6, cc7, cc8, cc9, cc10, cc11, cc12, cc13, cc14, cc15, cc16, cc17, cc18, cc19, cc20⟩ := HCC W hVW
      exact .inl ⟨_, W, by go_simp, rfl, Below.refl _ _⟩
    · obtain rfl := Option.some.inj hoo
      refine .inl ⟨wanted_none rfl, ?_⟩
      generalize hev : Act.eval _ = ev
      have ec : ∀ c, ev (.const c) = c := fun c => by rw [← hev]; rfl
      have e2 : ev (.tmp 2) = .pointer (some ⟨w.heap.size, 0, none⟩) := by rw [← hev]; exact eval_old (by kernel_rfl) 11 rfl (by decide) rfl
      clear hev hd
      exact .inl ⟨_, W, by go_simp, rfl, Below.refl _ _⟩
    · obtain rfl := Option.some.inj hoo
      have q1 : uu 1 = .pointer (some ⟨w.heap.size, 1, none⟩) := hd 1 (by kernel_rfl)
      refine .inl ⟨wanted_none rfl, ?_⟩
      generalize hev : Act.eval _ = ev
      have ec : ∀ c, ev (.const c) = c := fun c => by rw [← hev]; rfl
      have e6 : ev (.tmp 6) = .pointer (some ⟨w.heap.size, 1, none⟩) := by rw [← hev]; exact (eval_put (by kernel_rfl) 11 rfl (by decide)).trans q1
      clear hev hd q1
      obtain ⟨cc0, cc1, cc2, cc3, cc4, cc5, cc6, cc7, cc8, cc9, cc10, cc11, cc12, cc13, cc14, cc15, cc16, cc17, cc18, cc19, cc20⟩ := HCC W hVW
      exact .inl ⟨_, W, by go_simp, rfl, Below.refl _ _⟩
    · obtain rfl := Option.some.inj hoo
      refine .inl ⟨wanted_none rfl, ?_⟩
      generalize hev : Act.eval _ = ev
      have ec : ∀ c, ev (.const c) = c := fun c => by rw [← hev]; rfl
      have e2 : ev (.tmp 2) = .pointer (some ⟨w.heap.size, 0, none⟩) := by rw [← hev]; exact eval_old (by kernel_rfl) 11 rfl (by decide) rfl
      clear hev hd
      obtain ⟨cc0, cc1, cc2, cc3, cc4, cc5, cc6, cc7, cc8, cc9, cc10, cc11, cc12, cc13, cc14, cc15, cc16, cc17, cc18, cc19, cc20⟩ := HCC W hVW
      exact .inl ⟨_, W, by go_simp, rfl, Below.refl _ _⟩
    · obtain rfl := Option.some.inj hoo
      have q3 : uu 3 = .agg #[.int .u16 (o.toNat : Int), .int .u8 (m0.toNat : Int), .int .u8 (m1.toNat : Int), .int .u8 (m2.toNat : Int), .int .u8 (m3.toNat : Int), .int .u8 (m4.toNat : Int), .int .u8 (m5.toNat : Int), .int .u32 (s.toNat : Int), .int .u8 (n0.toNat : Int), .int .u8 (n1.toNat : Int), .int .u8 (n2.toNat : Int), .int .u8 (n3.toNat : Int), .int .u8 (n4.toNat : Int), .int .u8 (n5.toNat : Int), .int .u32 (d.toNat : Int)] := hd 3 (by kernel_rfl)
      refine .inl ⟨wanted_none rfl, ?_⟩
      generalize hev : Act.eval _ = ev
      have ec : ∀ c, ev (.const c) = c := fun c => by rw [← hev]; rfl
      have ef : ∀ f, ev (.func f) = .func (.func f) #[] #[] := fun f => by rw [← hev]; rfl
      have e8 : ev (.tmp 8) = .agg #[.int .u16 (o.toNat : Int), .int .u8 (m0.toNat : Int), .int .u8 (m1.toNat : Int), .int .u8 (m2.toNat : Int), .int .u8 (m3.toNat : Int), .int .u8 (m4.toNat : Int), .int .u8 (m5.toNat : Int), .int .u32 (s.toNat : Int), .int .u8 (n0.toNat : Int), .int .u8 (n1.toNat : Int), .int .u8 (n2.toNat : Int), .int .u8 (n3.toNat : Int), .int .u8 (n4.toNat : Int), .int .u8 (n5.toNat : Int), .int .u32 (d.toNat : Int)] := by rw [← hev]; exact (eval_put (by kernel_rfl) 11 rfl (by decide)).trans q3
      clear hev hd q3
      exact .inr ⟨_, _, _, by go_simp, aput_any o m0 m1 m2 m3 m4 m5 s n0 n1 n2 n3 n4 n5 d W, fun e w' he => by
        obtain ⟨L, A, c, rfl, HL, hr, hb⟩ := he
        exact ⟨_, rfl, ⟨L, A, c, rfl, HL, hr⟩, hb⟩⟩
    · obtain rfl := Option.some.inj hoo
      have q0 : uu 0 = .agg #[.int .u8 (k0.toNat : Int), .int .u8 (k1.toNat : Int), .int .u8 (k2.toNat : Int), .int .u8 (k3.toNat : Int), .int .u8 (k4.toNat : Int), .int .u8 (k5.toNat : Int)] := hd 0 (by kernel_rfl)
      have q2 : uu 2 = .agg #[.int .u8 (m0.toNat : Int), .int .u8 (m1.toNat : Int), .int .u8 (m2.toNat : Int), .int .u8 (m3.toNat : Int), .int .u8 (m4.toNat : Int), .int .u8 (m5.toNat : Int)] := hd 2 (by kernel_rfl)
      obtain ⟨L4, A4, c4, q4, HL4, r4⟩ := hd 4 (by kernel_rfl)
      refine .inl ⟨wanted_none rfl, ?_⟩
      generalize hev : Act.eval _ = ev
      have ec : ∀ c, ev (.const c) = c := fun c => by rw [← hev]; rfl
      have e5 : ev (.tmp 5) = .agg #[.int .u8 (k0.toNat : Int), .int .u8 (k1.toNat : Int), .int .u8 (k2.toNat : Int), .int .u8 (k3.toNat : Int), .int .u8 (k4.toNat : Int), .int .u8 (k5.toNat : Int)] := by rw [← hev]; exact (eval_put (by kernel_rfl) 11 rfl (by decide)).trans q0
      have e7 : ev (.tmp 7) = .agg #[.int .u8 (m0.toNat : Int), .int .u8 (m1.toNat : Int), .int .u8 (m2.toNat : Int), .int .u8 (m3.toNat : Int), .int .u8 (m4.toNat : Int), .int .u8 (m5.toNat : Int)] := by rw [← hev]; exact (eval_put (by kernel_rfl) 11 rfl (by decide)).trans q2
      have e9 : ev (.tmp 9) = .slice A4 L4.length c4 := by rw [← hev]; exact (eval_put (by kernel_rfl) 11 rfl (by decide)).trans q4
      clear hev hd q0 q2 q4
      exact .inl ⟨_, W, by go_simp, ⟨L4, A4, c4, rfl, HL4, r4⟩, Below.refl _ _⟩
    · omega
  · intro oo uu W hoo hVW hall
    obtain rfl := Option.some.inj hoo
    obtain ⟨L5, A5, c5, q5, HL5, r5⟩ := hall 5 (by decide)
    refine ⟨wanted_none rfl, ?_⟩
    generalize hev : Act.eval _ = ev
    have ec : ∀ c, ev (.const c) = c := fun c => by rw [← hev]; rfl
    have e4 : ev (.tmp 4) = .pointer (some ⟨w.heap.size + 1 + 1, 0, none⟩) := by rw [← hev]; exact eval_old (by kernel_rfl) 11 rfl (by decide) rfl
    have e10 : ev (.tmp 10) = .agg #[.int .u8 (k0.toNat : Int), .int .u8 (k1.toNat : Int), .int .u8 (k2.toNat : Int), .int .u8 (k3.toNat : Int), .int .u8 (k4.toNat : Int), .int .u8 (k5.toNat : Int), .int .u8 (m0.toNat : Int), .int .u8 (m1.toNat : Int), .int .u8 (m2.toNat : Int), .int .u8 (m3.toNat : Int), .int .u8 (m4.toNat : Int), .int .u8 (m5.toNat : Int), .int .u16 2054, .slice A5 L5.length c5] := by rw [← hev]; exact (eval_put (by kernel_rfl) 11 rfl (by decide)).trans q5
    clear hev hall
    obtain ⟨p0, p1, p2, p3, p4, p5, p6, p7, p8, p9, p10, p11, p12, p13, f0, f1, f2, f3, f4, f5, f6, f7, f8, f9, f10, f11, f12, f13⟩ := (K3.next hVW).get14
    refine ⟨_, by (go_simp <;> rfl), ?_⟩
    have hlen : L5.length = 28 := by rw [HL5.out, arpB_len]
    obtain ⟨b5, off5, rfl, -, hc5⟩ := byt_at r5 (k := 0) (by omega)
    replace hB := hB.trans (hVW.mono hB.size)
    replace K3 := K3.next hVW
    have hne : b5 ≠ w.heap.size + 1 + 1 := by
      rintro rfl
      have h1 := hc5 20 (by omega)
      rw [K3.cell, List.getElem?_eq_none (by simp)] at h1
      cases h1
    have hw2 : w.heap.size ≤ w.heap.size + 1 + 1 := by omega
    clear HCC K1 K2 hc5 hlen
    simp only [putAll, Act.put, Nat.reduceAdd]
    simp only [List.setIfInBounds_toArray, List.set_cons_succ, List.set_cons_zero]
    go_wp2_with fail
    simp [bodyPost, results, Try.results32, go_sem, *]
    have r6 := ((((((((((((((r5.oth hne 0 (.int .u8 (k0.toNat : Int))).oth hne 1 (.int .u8 (k1.toNat : Int))).oth hne 2 (.int .u8 (k2.toNat : Int))).oth hne 3 (.int .u8 (k3.toNat : Int))).oth hne 4 (.int .u8 (k4.toNat : Int))).oth hne 5 (.int .u8 (k5.toNat : Int))).oth hne 6 (.int .u8 (m0.toNat : Int))).oth hne 7 (.int .u8 (m1.toNat : Int))).oth hne 8 (.int .u8 (m2.toNat : Int))).oth hne 9 (.int .u8 (m3.toNat : Int))).oth hne 10 (.int .u8 (m4.toNat : Int))).oth hne 11 (.int .u8 (m5.toNat : Int))).oth hne 12 (.int .u16 2054)).oth hne 13 (.slice (some ⟨b5, off5, none⟩) L5.length c5))
    exact ⟨L5, some ⟨b5, off5, none⟩, c5, ⟨rfl, rfl, rfl⟩, HL5, by simpa using r6, bset14 hB hw2 (.int .u8 (k0.toNat : Int)) (.int .u8 (k1.toNat : Int)) (.int .u8 (k2.toNat : Int)) (.int .u8 (k3.toNat : Int)) (.int .u8 (k4.toNat : Int)) (.int .u8 (k5.toNat : Int)) (.int .u8 (m0.toNat : Int)) (.int .u8 (m1.toNat : Int)) (.int .u8 (m2.toNat : Int)) (.int .u8 (m3.toNat : Int)) (.int .u8 (m4.toNat : Int)) (.int .u8 (m5.toNat : Int)) (.int .u16 2054) (.slice (some ⟨b5, off5, none⟩) L5.length c5)⟩

end Go.Proofs.Ytiokofpmmlbncab
