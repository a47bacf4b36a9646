/- Contracts of arp.Parse. -/
import Derived.Test.YtiokofpmmlbncabArp2
namespace Go.Proofs.Ytiokofpmmlbncab
open Go.RowKit

set_option maxHeartbeats 8000000 in
set_option maxRecDepth 10000 in
theorem aparse_q2 (A : Option Addr) (c : Nat) (xs : List UInt8) (w : World) (hr : Rd bv w w.heap.size A c xs) (h28 : 28 ≤ xs.length) (hl : xs.length ≤ 1000000) (m0 m1 m2 m3 m4 m5 : UInt8) (s : UInt32) (n0 n1 n2 n3 n4 n5 : UInt8) (d : UInt32) (ho : beN ((xs.drop 6).take 2) = 2) (hm : (xs.drop 8).take 6 = [m0, m1, m2, m3, m4, m5]) (hs : beN ((xs.drop 14).take 4) = s.toNat) (hn : (xs.drop 18).take 6 = [n0, n1, n2, n3, n4, n5]) (hd : beN ((xs.drop 24).take 4) = d.toNat)
     (Q : Ending → World → Prop) (HG : Hid ((xs.take 6 = [0, 1, 8, 0, 6, 4] ∧ (2 = 1 ∨ 2 = 2) ∧ uniB m0 m1 m2 m3 m4 m5 = true) → ∀ w', Below w.heap.size w w' → Q (.returned (.tuple #[.agg #[.int .u16 2, .int .u8 (m0.toNat : Int), .int .u8 (m1.toNat : Int), .int .u8 (m2.toNat : Int), .int .u8 (m3.toNat : Int), .int .u8 (m4.toNat : Int), .int .u8 (m5.toNat : Int), .int .u32 (s.toNat : Int), .int .u8 (n0.toNat : Int), .int .u8 (n1.toNat : Int), .int .u8 (n2.toNat : Int), .int .u8 (n3.toNat : Int), .int .u8 (n4.toNat : Int), .int .u8 (n5.toNat : Int), .int .u32 (d.toNat : Int)], .int .i64 0])) w')) (HE : Hid (¬ (xs.take 6 = [0, 1, 8, 0, 6, 4] ∧ (2 = 1 ∨ 2 = 2) ∧ uniB m0 m1 m2 m3 m4 m5 = true) → ∀ w', Below w.heap.size w w' → Q (.returned (.tuple #[.agg #[.int .u16 0, .int .u8 0, .int .u8 0, .int .u8 0, .int .u8 0, .int .u8 0, .int .u8 0, .int .u32 0, .int .u8 0, .int .u8 0, .int .u8 0, .int .u8 0, .int .u8 0, .int .u8 0, .int .u32 0], .int .i64 3])) w')) :
    Calls Try.prog 23 #[.slice A xs.length c] w Q := by
  have hlc := hr.len
  have hcc := hr.cap
  obtain ⟨i0, hi0, hz0, hz1, hz2⟩ := info_parts info_u8
  obtain ⟨A8, c8, hr8, hsl8⟩ := hr.slice_l Try.underlying22 hi0 hz1 8 8 rfl (by omega)
  obtain ⟨A18, c18, hr18, hsl18⟩ := hr.slice_l Try.underlying22 hi0 hz1 18 18 rfl (by omega)
  obtain ⟨b8, off8, rfl, -, -⟩ := byt_at hr8 (k := 0) (by simp; omega)
  obtain ⟨b18, off18, rfl, -, -⟩ := byt_at hr18 (k := 0) (by simp; omega)
  obtain ⟨b, off, rfl, -, -⟩ := byt_at hr (k := 0) (by omega)
  have Q6 := fun W (h : Rd bv W W.heap.size (some ⟨b, off, none⟩) c xs) => Lib.hid (get16_b (some ⟨b, off, none⟩) c xs 6 6 2 rfl W h (by omega) ho)
  have Q14 := fun W (h : Rd bv W W.heap.size (some ⟨b, off, none⟩) c xs) => Lib.hid (get32_b (some ⟨b, off, none⟩) c xs 14 14 s.toNat rfl W h (by omega) hs)
  have Q24 := fun W (h : Rd bv W W.heap.size (some ⟨b, off, none⟩) c xs) => Lib.hid (get32_b (some ⟨b, off, none⟩) c xs 24 24 d.toNat rfl W h (by omega) hd)
  have hne : w.heap.size ≠ w.heap.size + 1 := by omega
  have hdl : decide ((xs.length : Int) < 28) = false := by simp; omega
  have hB := bnextA (bnextA (Below.refl w.heap.size w) (.cells #[.int .u16 0, .int .u8 0, .int .u8 0, .int .u8 0, .int .u8 0, .int .u8 0, .int .u8 0, .int .u32 0, .int .u8 0, .int .u8 0, .int .u8 0, .int .u8 0, .int .u8 0, .int .u8 0, .int .u32 0] 47)) (.cells #[.int .u16 0, .int .u8 0, .int .u8 0, .int .u8 0, .int .u8 0, .int .u8 0, .int .u8 0, .int .u32 0, .int .u8 0, .int .u8 0, .int .u8 0, .int .u8 0, .int .u8 0, .int .u8 0, .int .u32 0] 47)
  have K0 := (Blk.new w #[.int .u16 0, .int .u8 0, .int .u8 0, .int .u8 0, .int .u8 0, .int .u8 0, .int .u8 0, .int .u32 0, .int .u8 0, .int .u8 0, .int .u8 0, .int .u8 0, .int .u8 0, .int .u8 0, .int .u32 0] 47).alloc (.cells #[.int .u16 0, .int .u8 0, .int .u8 0, .int .u8 0, .int .u8 0, .int .u8 0, .int .u8 0, .int .u32 0, .int .u8 0, .int .u8 0, .int .u8 0, .int .u8 0, .int .u8 0, .int .u8 0, .int .u32 0] 47)
  have K1 : Blk ((w.alloc (.cells #[.int .u16 0, .int .u8 0, .int .u8 0, .int .u8 0, .int .u8 0, .int .u8 0, .int .u8 0, .int .u32 0, .int .u8 0, .int .u8 0, .int .u8 0, .int .u8 0, .int .u8 0, .int .u8 0, .int .u32 0] 47)).alloc (.cells #[.int .u16 0, .int .u8 0, .int .u8 0, .int .u8 0, .int .u8 0, .int .u8 0, .int .u8 0, .int .u32 0, .int .u8 0, .int .u8 0, .int .u8 0, .int .u8 0, .int .u8 0, .int .u8 0, .int .u32 0] 47)) (w.heap.size + 1) [.int .u16 0, .int .u8 0, .int .u8 0, .int .u8 0, .int .u8 0, .int .u8 0, .int .u8 0, .int .u32 0, .int .u8 0, .int .u8 0, .int .u8 0, .int .u8 0, .int .u8 0, .int .u8 0, .int .u32 0] 47 := by have := Blk.new (w.alloc (.cells #[.int .u16 0, .int .u8 0, .int .u8 0, .int .u8 0, .int .u8 0, .int .u8 0, .int .u8 0, .int .u32 0, .int .u8 0, .int .u8 0, .int .u8 0, .int .u8 0, .int .u8 0, .int .u8 0, .int .u32 0] 47)) #[.int .u16 0, .int .u8 0, .int .u8 0, .int .u8 0, .int .u8 0, .int .u8 0, .int .u8 0, .int .u32 0, .int .u8 0, .int .u8 0, .int .u8 0, .int .u8 0, .int .u8 0, .int .u8 0, .int .u32 0] 47; simpa using this
  have e8 : xs.length - 8 = (xs.drop 8).length := by simp
  have e18 : xs.length - 18 = (xs.drop 18).length := by simp
  have H8 : Hid (8 + 6 ≤ xs.length) := by rw [Hid]; omega
  have H18 : Hid (18 + 6 ≤ xs.length) := by rw [Hid]; omega
  have HX := Lib.hid (show xs.length = xs.length from rfl)
  clear e8 e18 ho hs hd
  go_enter Try.func23, Try.ntmps23
  go_wp2_with fail
  generalize (w.alloc (.cells #[.int .u16 0, .int .u8 0, .int .u8 0, .int .u8 0, .int .u8 0, .int .u8 0, .int .u8 0, .int .u32 0, .int .u8 0, .int .u8 0, .int .u8 0, .int .u8 0, .int .u8 0, .int .u8 0, .int .u32 0] 47)).alloc (.cells #[.int .u16 0, .int .u8 0, .int .u8 0, .int .u8 0, .int .u8 0, .int .u8 0, .int .u8 0, .int .u32 0, .int .u8 0, .int .u8 0, .int .u8 0, .int .u8 0, .int .u8 0, .int .u8 0, .int .u32 0] 47) = V at *
  refine (Q6 _ (hr.next hB)).out.mono ?_
  rintro e V1 ⟨rfl, hb⟩
  replace hB := bnext hB hb
  replace K0 := K0.next hb
  replace K1 := K1.next hb
  clear hb Q6
  obtain ⟨p0, p1, p2, p3, p4, p5, p6, p7, p8, p9, p10, p11, p12, p13, p14, f0, f1, f2, f3, f4, f5, f6, f7, f8, f9, f10, f11, f12, f13, f14⟩ := K1.get15
  go_wp2_with fail
  replace hB := hB.setCell (p := ⟨w.heap.size + 1, 0, none⟩) (Nat.le_succ _) (.int .u16 2)
  replace K0 := K0.other hne 0 (.int .u16 2)
  replace K1 := K1.set 0 (.int .u16 2)
  clear p0 p1 p2 p3 p4 p5 p6 p7 p8 p9 p10 p11 p12 p13 p14 f0 f1 f2 f3 f4 f5 f6 f7 f8 f9 f10 f11 f12 f13 f14
  generalize V1.setCell ⟨w.heap.size + 1, 0, none⟩ (.int .u16 2) = V2 at *
  obtain ⟨hcp, K2⟩ := copyB (o := 1) (n := 6) (sCap := c8) (K1.drew) [.int .u8 (m0.toNat : Int), .int .u8 (m1.toNat : Int), .int .u8 (m2.toNat : Int), .int .u8 (m3.toNat : Int), .int .u8 (m4.toNat : Int), .int .u8 (m5.toNat : Int)] rfl (sLen := xs.length - 8) (by have := H8.out; omega) (by simp) (six_src ((hr8.next hB).drew) m0 m1 m2 m3 m4 m5 hm) (by intro v hv; simp at hv; rcases hv with rfl | rfl | rfl | rfl | rfl | rfl <;> rfl) [.int .u16 2, .int .u8 (m0.toNat : Int), .int .u8 (m1.toNat : Int), .int .u8 (m2.toNat : Int), .int .u8 (m3.toNat : Int), .int .u8 (m4.toNat : Int), .int .u8 (m5.toNat : Int), .int .u32 0, .int .u8 0, .int .u8 0, .int .u8 0, .int .u8 0, .int .u8 0, .int .u8 0, .int .u32 0] rfl
  replace hB := below_setRow hB.drew (Nat.le_succ _) [.int .u16 2, .int .u8 (m0.toNat : Int), .int .u8 (m1.toNat : Int), .int .u8 (m2.toNat : Int), .int .u8 (m3.toNat : Int), .int .u8 (m4.toNat : Int), .int .u8 (m5.toNat : Int), .int .u32 0, .int .u8 0, .int .u8 0, .int .u8 0, .int .u8 0, .int .u8 0, .int .u8 0, .int .u32 0].toArray
  replace K0 := K0.drew.rowO hne [.int .u16 2, .int .u8 (m0.toNat : Int), .int .u8 (m1.toNat : Int), .int .u8 (m2.toNat : Int), .int .u8 (m3.toNat : Int), .int .u8 (m4.toNat : Int), .int .u8 (m5.toNat : Int), .int .u32 0, .int .u8 0, .int .u8 0, .int .u8 0, .int .u8 0, .int .u8 0, .int .u8 0, .int .u32 0].toArray
  first | (go_region) | fail
  clear hcp K1 hsl8 hr8 hm
  generalize V2.drew.setRow (w.heap.size + 1) [.int .u16 2, .int .u8 (m0.toNat : Int), .int .u8 (m1.toNat : Int), .int .u8 (m2.toNat : Int), .int .u8 (m3.toNat : Int), .int .u8 (m4.toNat : Int), .int .u8 (m5.toNat : Int), .int .u32 0, .int .u8 0, .int .u8 0, .int .u8 0, .int .u8 0, .int .u8 0, .int .u8 0, .int .u32 0].toArray = V3 at *
  go_wp2_with fail
  refine (Q14 _ (hr.next hB)).out.mono ?_
  rintro e V4 ⟨rfl, hb⟩
  replace hB := bnext hB hb
  replace K0 := K0.next hb
  have K1 := K2.next hb
  clear hb Q14 K2
  obtain ⟨p0, p1, p2, p3, p4, p5, p6, p7, p8, p9, p10, p11, p12, p13, p14, f0, f1, f2, f3, f4, f5, f6, f7, f8, f9, f10, f11, f12, f13, f14⟩ := K1.get15
  go_wp2_with fail
  replace hB := hB.setCell (p := ⟨w.heap.size + 1, 7, none⟩) (Nat.le_succ _) (.int .u32 (s.toNat : Int))
  replace K0 := K0.other hne 7 (.int .u32 (s.toNat : Int))
  replace K1 := K1.set 7 (.int .u32 (s.toNat : Int))
  clear p0 p1 p2 p3 p4 p5 p6 p7 p8 p9 p10 p11 p12 p13 p14 f0 f1 f2 f3 f4 f5 f6 f7 f8 f9 f10 f11 f12 f13 f14
  generalize V4.setCell ⟨w.heap.size + 1, 7, none⟩ (.int .u32 (s.toNat : Int)) = V5 at *
  obtain ⟨hcp, K2⟩ := copyB (o := 8) (n := 6) (sCap := c18) (K1.drew) [.int .u8 (n0.toNat : Int), .int .u8 (n1.toNat : Int), .int .u8 (n2.toNat : Int), .int .u8 (n3.toNat : Int), .int .u8 (n4.toNat : Int), .int .u8 (n5.toNat : Int)] rfl (sLen := xs.length - 18) (by have := H18.out; omega) (by simp) (six_src ((hr18.next hB).drew) n0 n1 n2 n3 n4 n5 hn) (by intro v hv; simp at hv; rcases hv with rfl | rfl | rfl | rfl | rfl | rfl <;> rfl) [.int .u16 2, .int .u8 (m0.toNat : Int), .int .u8 (m1.toNat : Int), .int .u8 (m2.toNat : Int), .int .u8 (m3.toNat : Int), .int .u8 (m4.toNat : Int), .int .u8 (m5.toNat : Int), .int .u32 (s.toNat : Int), .int .u8 (n0.toNat : Int), .int .u8 (n1.toNat : Int), .int .u8 (n2.toNat : Int), .int .u8 (n3.toNat : Int), .int .u8 (n4.toNat : Int), .int .u8 (n5.toNat : Int), .int .u32 0] rfl
  replace hB := below_setRow hB.drew (Nat.le_succ _) [.int .u16 2, .int .u8 (m0.toNat : Int), .int .u8 (m1.toNat : Int), .int .u8 (m2.toNat : Int), .int .u8 (m3.toNat : Int), .int .u8 (m4.toNat : Int), .int .u8 (m5.toNat : Int), .int .u32 (s.toNat : Int), .int .u8 (n0.toNat : Int), .int .u8 (n1.toNat : Int), .int .u8 (n2.toNat : Int), .int .u8 (n3.toNat : Int), .int .u8 (n4.toNat : Int), .int .u8 (n5.toNat : Int), .int .u32 0].toArray
  replace K0 := K0.drew.rowO hne [.int .u16 2, .int .u8 (m0.toNat : Int), .int .u8 (m1.toNat : Int), .int .u8 (m2.toNat : Int), .int .u8 (m3.toNat : Int), .int .u8 (m4.toNat : Int), .int .u8 (m5.toNat : Int), .int .u32 (s.toNat : Int), .int .u8 (n0.toNat : Int), .int .u8 (n1.toNat : Int), .int .u8 (n2.toNat : Int), .int .u8 (n3.toNat : Int), .int .u8 (n4.toNat : Int), .int .u8 (n5.toNat : Int), .int .u32 0].toArray
  first | (go_region) | fail
  clear hcp K1 hsl18 hr18 hn
  generalize V5.drew.setRow (w.heap.size + 1) [.int .u16 2, .int .u8 (m0.toNat : Int), .int .u8 (m1.toNat : Int), .int .u8 (m2.toNat : Int), .int .u8 (m3.toNat : Int), .int .u8 (m4.toNat : Int), .int .u8 (m5.toNat : Int), .int .u32 (s.toNat : Int), .int .u8 (n0.toNat : Int), .int .u8 (n1.toNat : Int), .int .u8 (n2.toNat : Int), .int .u8 (n3.toNat : Int), .int .u8 (n4.toNat : Int), .int .u8 (n5.toNat : Int), .int .u32 0].toArray = V6 at *
  go_wp2_with fail
  refine (Q24 _ (hr.next hB)).out.mono ?_
  rintro e V7 ⟨rfl, hb⟩
  replace hB := bnext hB hb
  replace K0 := K0.next hb
  have K1 := K2.next hb
  clear hb Q24 K2
  obtain ⟨p0, p1, p2, p3, p4, p5, p6, p7, p8, p9, p10, p11, p12, p13, p14, f0, f1, f2, f3, f4, f5, f6, f7, f8, f9, f10, f11, f12, f13, f14⟩ := K1.get15
  go_wp2_with fail
  replace hB := hB.setCell (p := ⟨w.heap.size + 1, 14, none⟩) (Nat.le_succ _) (.int .u32 (d.toNat : Int))
  replace K0 := K0.other hne 14 (.int .u32 (d.toNat : Int))
  replace K1 := K1.set 14 (.int .u32 (d.toNat : Int))
  clear p0 p1 p2 p3 p4 p5 p6 p7 p8 p9 p10 p11 p12 p13 p14 f0 f1 f2 f3 f4 f5 f6 f7 f8 f9 f10 f11 f12 f13 f14
  generalize V7.setCell ⟨w.heap.size + 1, 14, none⟩ (.int .u32 (d.toNat : Int)) = V8 at *
  have HU := fun W => auni_any m0 m1 m2 m3 m4 m5 W
  obtain ⟨hd6, h6⟩ : ∃ l, xs.take 6 = l := ⟨_, rfl⟩
  have r6 := fun W (h : Below w.heap.size w W) => (hr.next h).take 6
  rw [h6] at r6 HG HE
  have l6 : hd6.length = 6 := by rw [← h6]; simp; omega
  have hc6 : (6 : Int) ≤ (c : Int) := by omega
  clear h6
  · have HS : ∀ W, Below V8.heap.size V8 W → (W.cell? ⟨w.heap.size + 1, 0, none⟩ = some (.int .u16 2) ∧ W.cell? ⟨w.heap.size + 1, 1, none⟩ = some (.int .u8 (m0.toNat : Int)) ∧ W.cell? ⟨w.heap.size + 1, 2, none⟩ = some (.int .u8 (m1.toNat : Int)) ∧ W.cell? ⟨w.heap.size + 1, 3, none⟩ = some (.int .u8 (m2.toNat : Int)) ∧ W.cell? ⟨w.heap.size + 1, 4, none⟩ = some (.int .u8 (m3.toNat : Int)) ∧ W.cell? ⟨w.heap.size + 1, 5, none⟩ = some (.int .u8 (m4.toNat : Int)) ∧ W.cell? ⟨w.heap.size + 1, 6, none⟩ = some (.int .u8 (m5.toNat : Int)) ∧ W.cell? ⟨w.heap.size + 1, 7, none⟩ = some (.int .u32 (s.toNat : Int)) ∧ W.cell? ⟨w.heap.size + 1, 8, none⟩ = some (.int .u8 (n0.toNat : Int)) ∧ W.cell? ⟨w.heap.size + 1, 9, none⟩ = some (.int .u8 (n1.toNat : Int)) ∧ W.cell? ⟨w.heap.size + 1, 10, none⟩ = some (.int .u8 (n2.toNat : Int)) ∧ W.cell? ⟨w.heap.size + 1, 11, none⟩ = some (.int .u8 (n3.toNat : Int)) ∧ W.cell? ⟨w.heap.size + 1, 12, none⟩ = some (.int .u8 (n4.toNat : Int)) ∧ W.cell? ⟨w.heap.size + 1, 13, none⟩ = some (.int .u8 (n5.toNat : Int)) ∧ W.cell? ⟨w.heap.size + 1, 14, none⟩ = some (.int .u32 (d.toNat : Int))) := by
      intro W h
      obtain ⟨p0, p1, p2, p3, p4, p5, p6, p7, p8, p9, p10, p11, p12, p13, p14, -⟩ := (K1.next h).get15
      exact ⟨p0, p1, p2, p3, p4, p5, p6, p7, p8, p9, p10, p11, p12, p13, p14⟩
    obtain ⟨p0, p1, p2, p3, p4, p5, p6, p7, p8, p9, p10, p11, p12, p13, p14, f0, f1, f2, f3, f4, f5, f6, f7, f8, f9, f10, f11, f12, f13, f14⟩ := K1.get15
    clear p0 p1 p2 p3 p4 p5 p6 p7 p8 p9 p10 p11 p12 p13 p14 f0 f1 f2 f3 f4 f5 f6 f7 f8 f9 f10 f11 f12 f13 f14
    by_cases hh : hd6 = [0, 1, 8, 0, 6, 4]
    · cases hu : uniB m0 m1 m2 m3 m4 m5 <;> simp only [hu] at HU
      · skip
        refine region_put (by kernel_rfl) (by kernel_rfl) (by kernel_rfl) 63 rfl (by kernel_rfl) V8 (fun i v W => match i with
            | 0 => v = .slice (some ⟨b, off, none⟩) xs.length c
            | 1 => ∃ L A c, v = .slice A L.length c ∧ Hid (L = hd6) ∧ Rd bv W W.heap.size A c L
            | 2 => ∃ L A c, v = .slice A L.length c ∧ Hid (L = [0, 1, 8, 0, 6, 4]) ∧ Rd bv W W.heap.size A c L
            | 3 => v = .bool true
            | 4 => v = .bool false
            | 5 => v = .bool false
            | 6 => v = .bool true
            | 7 => v = .bool false
            | 8 => v = .bool false
            | 9 => v = .bool false
            | 10 => v = .pointer (some ⟨w.heap.size + 1, 1, none⟩)
            | 11 => v = .agg #[.int .u8 (m0.toNat : Int), .int .u8 (m1.toNat : Int), .int .u8 (m2.toNat : Int), .int .u8 (m3.toNat : Int), .int .u8 (m4.toNat : Int), .int .u8 (m5.toNat : Int)]
            | 12 => v = .bool false
            | 13 => v = .bool true
            | 14 => v = .bool true
            | _ => True) (Below.refl _ _) ?_ ?_ ?_
        · intro i v W W' h hb
          match i, h with
          | 0, h => exact h
          | 1, h => obtain ⟨L, A, c, h1, h2, h3⟩ := h; exact ⟨L, A, c, h1, h2, h3.next hb⟩
          | 2, h => obtain ⟨L, A, c, h1, h2, h3⟩ := h; exact ⟨L, A, c, h1, h2, h3.next hb⟩
          | 3, h => exact h
          | 4, h => exact h
          | 5, h => exact h
          | 6, h => exact h
          | 7, h => exact h
          | 8, h => exact h
          | 9, h => exact h
          | 10, h => exact h
          | 11, h => exact h
          | 12, h => exact h
          | 13, h => exact h
          | 14, h => exact h
          | _ + 15, _ => trivial
        · intro i o uu W hoo hVW hd
          rcases i with _|_|_|_|_|_|_|_|_|_|_|_|_|_|_|i
          · obtain rfl := Option.some.inj hoo
            refine .inl ⟨wanted_none rfl, ?_⟩
            generalize hev : Act.eval _ = ev
            have ec : ∀ c, ev (.const c) = c := fun c => by rw [← hev]; rfl
            have e0 : ev (.tmp 0) = .slice (some ⟨b, off, none⟩) xs.length c := by rw [← hev]; exact eval_old (by kernel_rfl) 63 rfl (by decide) rfl
            clear hev hd
            exact .inl ⟨_, W, by go_simp, rfl, Below.refl _ _⟩
          · obtain rfl := Option.some.inj hoo
            have q0 : uu 0 = .slice (some ⟨b, off, none⟩) xs.length c := hd 0 (by kernel_rfl)
            refine .inl ⟨wanted_none rfl, ?_⟩
            generalize hev : Act.eval _ = ev
            have ec : ∀ c, ev (.const c) = c := fun c => by rw [← hev]; rfl
            have e46 : ev (.tmp 46) = .slice (some ⟨b, off, none⟩) xs.length c := by rw [← hev]; exact (eval_put (by kernel_rfl) 63 rfl (by decide)).trans q0
            clear hev hd q0
            exact .inl ⟨.slice (some ⟨b, off, none⟩) 6 c, W, by go_simp, ⟨hd6, some ⟨b, off, none⟩, c, by rw [l6], rfl, r6 W (hB.trans (hVW.mono hB.size))⟩, Below.refl _ _⟩
          · obtain rfl := Option.some.inj hoo
            refine .inl ⟨wanted_none rfl, ?_⟩
            generalize hev : Act.eval _ = ev
            have ec : ∀ c, ev (.const c) = c := fun c => by rw [← hev]; rfl
            have ef : ∀ f, ev (.func f) = .func (.func f) #[] #[] := fun f => by rw [← hev]; rfl
            clear hev hd
            exact .inr ⟨_, _, _, by go_simp, akind_any W, fun e w' he => by
              obtain ⟨L, A, c, rfl, HL, hr, hb⟩ := he
              exact ⟨_, rfl, ⟨L, A, c, rfl, HL, hr⟩, hb⟩⟩
          · obtain rfl := Option.some.inj hoo
            obtain ⟨L1, A1, c1, q1, HL1, r1⟩ := hd 1 (by kernel_rfl)
            obtain ⟨L2, A2, c2, q2, HL2, r2⟩ := hd 2 (by kernel_rfl)
            refine .inl ⟨wanted_none rfl, ?_⟩
            generalize hev : Act.eval _ = ev
            have ec : ∀ c, ev (.const c) = c := fun c => by rw [← hev]; rfl
            have ef : ∀ f, ev (.func f) = .func (.func f) #[] #[] := fun f => by rw [← hev]; rfl
            have e47 : ev (.tmp 47) = .slice A1 L1.length c1 := by rw [← hev]; exact (eval_put (by kernel_rfl) 63 rfl (by decide)).trans q1
            have e48 : ev (.tmp 48) = .slice A2 L2.length c2 := by rw [← hev]; exact (eval_put (by kernel_rfl) 63 rfl (by decide)).trans q2
            clear hev hd q1 q2
            exact .inr ⟨_, _, _, by go_simp, same_eq2 _ _ _ _ L1 L2 W _ r1 r2 (by rw [HL1.out, HL2.out, hh]), fun e w' he => ⟨_, he.1, rfl, he.2 ▸ Below.refl _ _⟩⟩
          · obtain rfl := Option.some.inj hoo
            have q3 : uu 3 = .bool true := hd 3 (by kernel_rfl)
            refine .inl ⟨wanted_none rfl, ?_⟩
            generalize hev : Act.eval _ = ev
            have ec : ∀ c, ev (.const c) = c := fun c => by rw [← hev]; rfl
            have e49 : ev (.tmp 49) = .bool true := by rw [← hev]; exact (eval_put (by kernel_rfl) 63 rfl (by decide)).trans q3
            clear hev hd q3
            exact .inl ⟨_, W, by go_simp, rfl, Below.refl _ _⟩
          · obtain rfl := Option.some.inj hoo
            have q4 : uu 4 = .bool false := hd 4 (by kernel_rfl)
            refine .inl ⟨wanted_none rfl, ?_⟩
            generalize hev : Act.eval _ = ev
            have ec : ∀ c, ev (.const c) = c := fun c => by rw [← hev]; rfl
            have e50 : ev (.tmp 50) = .bool false := by rw [← hev]; exact (eval_put (by kernel_rfl) 63 rfl (by decide)).trans q4
            clear hev hd q4
            exact .inl ⟨_, W, by go_simp, rfl, Below.refl _ _⟩
          · obtain rfl := Option.some.inj hoo
            have q5 : uu 5 = .bool false := hd 5 (by kernel_rfl)
            refine .inl ⟨wanted_yes rfl (yielded_put (k := 51) (by kernel_rfl) (by kernel_rfl) 63 rfl (by decide) q5), ?_⟩
            generalize hev : Act.eval _ = ev
            have ec : ∀ c, ev (.const c) = c := fun c => by rw [← hev]; rfl
            have e5 : ev (.tmp 5) = .bool true := by rw [← hev]; exact eval_old (by kernel_rfl) 63 rfl (by decide) rfl
            clear hev hd q5
            exact .inl ⟨_, W, by go_simp, rfl, Below.refl _ _⟩
          · obtain rfl := Option.some.inj hoo
            have q6 : uu 6 = .bool true := hd 6 (by kernel_rfl)
            have q5 : uu 5 = .bool false := hd 5 (by kernel_rfl)
            refine .inl ⟨wanted_yes rfl (yielded_put (k := 51) (by kernel_rfl) (by kernel_rfl) 63 rfl (by decide) q5), ?_⟩
            generalize hev : Act.eval _ = ev
            have ec : ∀ c, ev (.const c) = c := fun c => by rw [← hev]; rfl
            have e52 : ev (.tmp 52) = .bool true := by rw [← hev]; exact (eval_put (by kernel_rfl) 63 rfl (by decide)).trans q6
            clear hev hd q6 q5
            exact .inl ⟨_, W, by go_simp, rfl, Below.refl _ _⟩
          · obtain rfl := Option.some.inj hoo
            have q5 : uu 5 = .bool false := hd 5 (by kernel_rfl)
            have q7 : uu 7 = .bool false := hd 7 (by kernel_rfl)
            refine .inl ⟨wanted_none rfl, ?_⟩
            generalize hev : Act.eval _ = ev
            have ec : ∀ c, ev (.const c) = c := fun c => by rw [← hev]; rfl
            have e51 : ev (.tmp 51) = .bool false := by rw [← hev]; exact (eval_put (by kernel_rfl) 63 rfl (by decide)).trans q5
            have e53 : ev (.tmp 53) = .bool false := by rw [← hev]; exact (eval_put (by kernel_rfl) 63 rfl (by decide)).trans q7
            clear hev hd q5 q7
            exact .inl ⟨_, W, by go_simp, rfl, Below.refl _ _⟩
          · obtain rfl := Option.some.inj hoo
            have q8 : uu 8 = .bool false := hd 8 (by kernel_rfl)
            refine .inl ⟨wanted_none rfl, ?_⟩
            generalize hev : Act.eval _ = ev
            have ec : ∀ c, ev (.const c) = c := fun c => by rw [← hev]; rfl
            have e54 : ev (.tmp 54) = .bool false := by rw [← hev]; exact (eval_put (by kernel_rfl) 63 rfl (by decide)).trans q8
            clear hev hd q8
            exact .inl ⟨_, W, by go_simp, rfl, Below.refl _ _⟩
          · obtain rfl := Option.some.inj hoo
            have q9 : uu 9 = .bool false := hd 9 (by kernel_rfl)
            refine .inl ⟨wanted_yes rfl (yielded_put (k := 55) (by kernel_rfl) (by kernel_rfl) 63 rfl (by decide) q9), ?_⟩
            generalize hev : Act.eval _ = ev
            have ec : ∀ c, ev (.const c) = c := fun c => by rw [← hev]; rfl
            have e4 : ev (.tmp 4) = .pointer (some ⟨w.heap.size + 1, 0, none⟩) := by rw [← hev]; exact eval_old (by kernel_rfl) 63 rfl (by decide) rfl
            clear hev hd q9
            exact .inl ⟨_, W, by go_simp, rfl, Below.refl _ _⟩
          · obtain rfl := Option.some.inj hoo
            have q10 : uu 10 = .pointer (some ⟨w.heap.size + 1, 1, none⟩) := hd 10 (by kernel_rfl)
            have q9 : uu 9 = .bool false := hd 9 (by kernel_rfl)
            refine .inl ⟨wanted_yes rfl (yielded_put (k := 55) (by kernel_rfl) (by kernel_rfl) 63 rfl (by decide) q9), ?_⟩
            generalize hev : Act.eval _ = ev
            have ec : ∀ c, ev (.const c) = c := fun c => by rw [← hev]; rfl
            have e56 : ev (.tmp 56) = .pointer (some ⟨w.heap.size + 1, 1, none⟩) := by rw [← hev]; exact (eval_put (by kernel_rfl) 63 rfl (by decide)).trans q10
            clear hev hd q10 q9
            obtain ⟨cc0, cc1, cc2, cc3, cc4, cc5, cc6, cc7, cc8, cc9, cc10, cc11, cc12, cc13, cc14⟩ := HS W hVW
            exact .inl ⟨_, W, by go_simp, rfl, Below.refl _ _⟩
          · obtain rfl := Option.some.inj hoo
            have q11 : uu 11 = .agg #[.int .u8 (m0.toNat : Int), .int .u8 (m1.toNat : Int), .int .u8 (m2.toNat : Int), .int .u8 (m3.toNat : Int), .int .u8 (m4.toNat : Int), .int .u8 (m5.toNat : Int)] := hd 11 (by kernel_rfl)
            have q9 : uu 9 = .bool false := hd 9 (by kernel_rfl)
            refine .inl ⟨wanted_yes rfl (yielded_put (k := 55) (by kernel_rfl) (by kernel_rfl) 63 rfl (by decide) q9), ?_⟩
            generalize hev : Act.eval _ = ev
            have ec : ∀ c, ev (.const c) = c := fun c => by rw [← hev]; rfl
            have ef : ∀ f, ev (.func f) = .func (.func f) #[] #[] := fun f => by rw [← hev]; rfl
            have e57 : ev (.tmp 57) = .agg #[.int .u8 (m0.toNat : Int), .int .u8 (m1.toNat : Int), .int .u8 (m2.toNat : Int), .int .u8 (m3.toNat : Int), .int .u8 (m4.toNat : Int), .int .u8 (m5.toNat : Int)] := by rw [← hev]; exact (eval_put (by kernel_rfl) 63 rfl (by decide)).trans q11
            clear hev hd q11 q9
            exact .inr ⟨_, _, _, by go_simp, HU W, fun e w' he => ⟨_, he.1, rfl, he.2⟩⟩
          · obtain rfl := Option.some.inj hoo
            have q12 : uu 12 = .bool false := hd 12 (by kernel_rfl)
            have q9 : uu 9 = .bool false := hd 9 (by kernel_rfl)
            refine .inl ⟨wanted_yes rfl (yielded_put (k := 55) (by kernel_rfl) (by kernel_rfl) 63 rfl (by decide) q9), ?_⟩
            generalize hev : Act.eval _ = ev
            have ec : ∀ c, ev (.const c) = c := fun c => by rw [← hev]; rfl
            have e58 : ev (.tmp 58) = .bool false := by rw [← hev]; exact (eval_put (by kernel_rfl) 63 rfl (by decide)).trans q12
            clear hev hd q12 q9
            exact .inl ⟨_, W, by go_simp, rfl, Below.refl _ _⟩
          · obtain rfl := Option.some.inj hoo
            have q9 : uu 9 = .bool false := hd 9 (by kernel_rfl)
            have q13 : uu 13 = .bool true := hd 13 (by kernel_rfl)
            refine .inl ⟨wanted_none rfl, ?_⟩
            generalize hev : Act.eval _ = ev
            have ec : ∀ c, ev (.const c) = c := fun c => by rw [← hev]; rfl
            have e55 : ev (.tmp 55) = .bool false := by rw [← hev]; exact (eval_put (by kernel_rfl) 63 rfl (by decide)).trans q9
            have e59 : ev (.tmp 59) = .bool true := by rw [← hev]; exact (eval_put (by kernel_rfl) 63 rfl (by decide)).trans q13
            clear hev hd q9 q13
            exact .inl ⟨_, W, by go_simp, rfl, Below.refl _ _⟩
          · simp at hoo
        · intro uu W hVW hall
          have q14 : uu 14 = .bool true := hall 14 (by decide)
          replace hB := hB.trans (hVW.mono hB.size)
          replace K0 := K0.next hVW
          replace K1 := K1.next hVW
          clear hall HS HU r6 hVW
          simp only [putAll, Act.put, Nat.reduceAdd, q14]
          simp only [List.setIfInBounds_toArray, List.set_cons_succ, List.set_cons_zero]
          obtain ⟨p0, p1, p2, p3, p4, p5, p6, p7, p8, p9, p10, p11, p12, p13, p14, -⟩ := K1.get15
          obtain ⟨qp0, qp1, qp2, qp3, qp4, qp5, qp6, qp7, qp8, qp9, qp10, qp11, qp12, qp13, qp14, qf0, qf1, qf2, qf3, qf4, qf5, qf6, qf7, qf8, qf9, qf10, qf11, qf12, qf13, qf14⟩ := K0.get15
          clear K0 K1
          go_wp2_with fail
          simp [bodyPost, results, Try.results23, go_sem, *]
          exact HE.out (by simp [hu]) _ (bset15 hB (Nat.le_refl _) (.int .u16 0) (.int .u8 0) (.int .u8 0) (.int .u8 0) (.int .u8 0) (.int .u8 0) (.int .u8 0) (.int .u32 0) (.int .u8 0) (.int .u8 0) (.int .u8 0) (.int .u8 0) (.int .u8 0) (.int .u8 0) (.int .u32 0))
      · skip
        refine region_put (by kernel_rfl) (by kernel_rfl) (by kernel_rfl) 63 rfl (by kernel_rfl) V8 (fun i v W => match i with
            | 0 => v = .slice (some ⟨b, off, none⟩) xs.length c
            | 1 => ∃ L A c, v = .slice A L.length c ∧ Hid (L = hd6) ∧ Rd bv W W.heap.size A c L
            | 2 => ∃ L A c, v = .slice A L.length c ∧ Hid (L = [0, 1, 8, 0, 6, 4]) ∧ Rd bv W W.heap.size A c L
            | 3 => v = .bool true
            | 4 => v = .bool false
            | 5 => v = .bool false
            | 6 => v = .bool true
            | 7 => v = .bool false
            | 8 => v = .bool false
            | 9 => v = .bool false
            | 10 => v = .pointer (some ⟨w.heap.size + 1, 1, none⟩)
            | 11 => v = .agg #[.int .u8 (m0.toNat : Int), .int .u8 (m1.toNat : Int), .int .u8 (m2.toNat : Int), .int .u8 (m3.toNat : Int), .int .u8 (m4.toNat : Int), .int .u8 (m5.toNat : Int)]
            | 12 => v = .bool true
            | 13 => v = .bool false
            | 14 => v = .bool false
            | _ => True) (Below.refl _ _) ?_ ?_ ?_
        · intro i v W W' h hb
          match i, h with
          | 0, h => exact h
          | 1, h => obtain ⟨L, A, c, h1, h2, h3⟩ := h; exact ⟨L, A, c, h1, h2, h3.next hb⟩
          | 2, h => obtain ⟨L, A, c, h1, h2, h3⟩ := h; exact ⟨L, A, c, h1, h2, h3.next hb⟩
          | 3, h => exact h
          | 4, h => exact h
          | 5, h => exact h
          | 6, h => exact h
          | 7, h => exact h
          | 8, h => exact h
          | 9, h => exact h
          | 10, h => exact h
          | 11, h => exact h
          | 12, h => exact h
          | 13, h => exact h
          | 14, h => exact h
          | _ + 15, _ => trivial
        · intro i o uu W hoo hVW hd
          rcases i with _|_|_|_|_|_|_|_|_|_|_|_|_|_|_|i
          · obtain rfl := Option.some.inj hoo
            refine .inl ⟨wanted_none rfl, ?_⟩
            generalize hev : Act.eval _ = ev
            have ec : ∀ c, ev (.const c) = c := fun c => by rw [← hev]; rfl
            have e0 : ev (.tmp 0) = .slice (some ⟨b, off, none⟩) xs.length c := by rw [← hev]; exact eval_old (by kernel_rfl) 63 rfl (by decide) rfl
            clear hev hd
            exact .inl ⟨_, W, by go_simp, rfl, Below.refl _ _⟩
          · obtain rfl := Option.some.inj hoo
            have q0 : uu 0 = .slice (some ⟨b, off, none⟩) xs.length c := hd 0 (by kernel_rfl)
            refine .inl ⟨wanted_none rfl, ?_⟩
            generalize hev : Act.eval _ = ev
            have ec : ∀ c, ev (.const c) = c := fun c => by rw [← hev]; rfl
            have e46 : ev (.tmp 46) = .slice (some ⟨b, off, none⟩) xs.length c := by rw [← hev]; exact (eval_put (by kernel_rfl) 63 rfl (by decide)).trans q0
            clear hev hd q0
            exact .inl ⟨.slice (some ⟨b, off, none⟩) 6 c, W, by go_simp, ⟨hd6, some ⟨b, off, none⟩, c, by rw [l6], rfl, r6 W (hB.trans (hVW.mono hB.size))⟩, Below.refl _ _⟩
          · obtain rfl := Option.some.inj hoo
            refine .inl ⟨wanted_none rfl, ?_⟩
            generalize hev : Act.eval _ = ev
            have ec : ∀ c, ev (.const c) = c := fun c => by rw [← hev]; rfl
            have ef : ∀ f, ev (.func f) = .func (.func f) #[] #[] := fun f => by rw [← hev]; rfl
            clear hev hd
            exact .inr ⟨_, _, _, by go_simp, akind_any W, fun e w' he => by
              obtain ⟨L, A, c, rfl, HL, hr, hb⟩ := he
              exact ⟨_, rfl, ⟨L, A, c, rfl, HL, hr⟩, hb⟩⟩
          · obtain rfl := Option.some.inj hoo
            obtain ⟨L1, A1, c1, q1, HL1, r1⟩ := hd 1 (by kernel_rfl)
            obtain ⟨L2, A2, c2, q2, HL2, r2⟩ := hd 2 (by kernel_rfl)
            refine .inl ⟨wanted_none rfl, ?_⟩
            generalize hev : Act.eval _ = ev
            have ec : ∀ c, ev (.const c) = c := fun c => by rw [← hev]; rfl
            have ef : ∀ f, ev (.func f) = .func (.func f) #[] #[] := fun f => by rw [← hev]; rfl
            have e47 : ev (.tmp 47) = .slice A1 L1.length c1 := by rw [← hev]; exact (eval_put (by kernel_rfl) 63 rfl (by decide)).trans q1
            have e48 : ev (.tmp 48) = .slice A2 L2.length c2 := by rw [← hev]; exact (eval_put (by kernel_rfl) 63 rfl (by decide)).trans q2
            clear hev hd q1 q2
            exact .inr ⟨_, _, _, by go_simp, same_eq2 _ _ _ _ L1 L2 W _ r1 r2 (by rw [HL1.out, HL2.out, hh]), fun e w' he => ⟨_, he.1, rfl, he.2 ▸ Below.refl _ _⟩⟩
          · obtain rfl := Option.some.inj hoo
            have q3 : uu 3 = .bool true := hd 3 (by kernel_rfl)
            refine .inl ⟨wanted_none rfl, ?_⟩
            generalize hev : Act.eval _ = ev
            have ec : ∀ c, ev (.const c) = c := fun c => by rw [← hev]; rfl
            have e49 : ev (.tmp 49) = .bool true := by rw [← hev]; exact (eval_put (by kernel_rfl) 63 rfl (by decide)).trans q3
            clear hev hd q3
            exact .inl ⟨_, W, by go_simp, rfl, Below.refl _ _⟩
          · obtain rfl := Option.some.inj hoo
            have q4 : uu 4 = .bool false := hd 4 (by kernel_rfl)
            refine .inl ⟨wanted_none rfl, ?_⟩
            generalize hev : Act.eval _ = ev
            have ec : ∀ c, ev (.const c) = c := fun c => by rw [← hev]; rfl
            have e50 : ev (.tmp 50) = .bool false := by rw [← hev]; exact (eval_put (by kernel_rfl) 63 rfl (by decide)).trans q4
            clear hev hd q4
            exact .inl ⟨_, W, by go_simp, rfl, Below.refl _ _⟩
          · obtain rfl := Option.some.inj hoo
            have q5 : uu 5 = .bool false := hd 5 (by kernel_rfl)
            refine .inl ⟨wanted_yes rfl (yielded_put (k := 51) (by kernel_rfl) (by kernel_rfl) 63 rfl (by decide) q5), ?_⟩
            generalize hev : Act.eval _ = ev
            have ec : ∀ c, ev (.const c) = c := fun c => by rw [← hev]; rfl
            have e5 : ev (.tmp 5) = .bool true := by rw [← hev]; exact eval_old (by kernel_rfl) 63 rfl (by decide) rfl
            clear hev hd q5
            exact .inl ⟨_, W, by go_simp, rfl, Below.refl _ _⟩
          · obtain rfl := Option.some.inj hoo
            have q6 : uu 6 = .bool true := hd 6 (by kernel_rfl)
            have q5 : uu 5 = .bool false := hd 5 (by kernel_rfl)
            refine .inl ⟨wanted_yes rfl (yielded_put (k := 51) (by kernel_rfl) (by kernel_rfl) 63 rfl (by decide) q5), ?_⟩
            generalize hev : Act.eval _ = ev
            have ec : ∀ c, ev (.const c) = c := fun c => by rw [← hev]; rfl
            have e52 : ev (.tmp 52) = .bool true := by rw [← hev]; exact (eval_put (by kernel_rfl) 63 rfl (by decide)).trans q6
            clear hev hd q6 q5
            exact .inl ⟨_, W, by go_simp, rfl, Below.refl _ _⟩
          · obtain rfl := Option.some.inj hoo
            have q5 : uu 5 = .bool false := hd 5 (by kernel_rfl)
            have q7 : uu 7 = .bool false := hd 7 (by kernel_rfl)
            refine .inl ⟨wanted_none rfl, ?_⟩
            generalize hev : Act.eval _ = ev
            have ec : ∀ c, ev (.const c) = c := fun c => by rw [← hev]; rfl
            have e51 : ev (.tmp 51) = .bool false := by rw [← hev]; exact (eval_put (by kernel_rfl) 63 rfl (by decide)).trans q5
            have e53 : ev (.tmp 53) = .bool false := by rw [← hev]; exact (eval_put (by kernel_rfl) 63 rfl (by decide)).trans q7
            clear hev hd q5 q7
            exact .inl ⟨_, W, by go_simp, rfl, Below.refl _ _⟩
          · obtain rfl := Option.some.inj hoo
            have q8 : uu 8 = .bool false := hd 8 (by kernel_rfl)
            refine .inl ⟨wanted_none rfl, ?_⟩
            generalize hev : Act.eval _ = ev
            have ec : ∀ c, ev (.const c) = c := fun c => by rw [← hev]; rfl
            have e54 : ev (.tmp 54) = .bool false := by rw [← hev]; exact (eval_put (by kernel_rfl) 63 rfl (by decide)).trans q8
            clear hev hd q8
            exact .inl ⟨_, W, by go_simp, rfl, Below.refl _ _⟩
          · obtain rfl := Option.some.inj hoo
            have q9 : uu 9 = .bool false := hd 9 (by kernel_rfl)
            refine .inl ⟨wanted_yes rfl (yielded_put (k := 55) (by kernel_rfl) (by kernel_rfl) 63 rfl (by decide) q9), ?_⟩
            generalize hev : Act.eval _ = ev
            have ec : ∀ c, ev (.const c) = c := fun c => by rw [← hev]; rfl
            have e4 : ev (.tmp 4) = .pointer (some ⟨w.heap.size + 1, 0, none⟩) := by rw [← hev]; exact eval_old (by kernel_rfl) 63 rfl (by decide) rfl
            clear hev hd q9
            exact .inl ⟨_, W, by go_simp, rfl, Below.refl _ _⟩
          · obtain rfl := Option.some.inj hoo
            have q10 : uu 10 = .pointer (some ⟨w.heap.size + 1, 1, none⟩) := hd 10 (by kernel_rfl)
            have q9 : uu 9 = .bool false := hd 9 (by kernel_rfl)
            refine .inl ⟨wanted_yes rfl (yielded_put (k := 55) (by kernel_rfl) (by kernel_rfl) 63 rfl (by decide) q9), ?_⟩
            generalize hev : Act.eval _ = ev
            have ec : ∀ c, ev (.const c) = c := fun c => by rw [← hev]; rfl
            have e56 : ev (.tmp 56) = .pointer (some ⟨w.heap.size + 1, 1, none⟩) := by rw [← hev]; exact (eval_put (by kernel_rfl) 63 rfl (by decide)).trans q10
            clear hev hd q10 q9
            obtain ⟨cc0, cc1, cc2, cc3, cc4, cc5, cc6, cc7, cc8, cc9, cc10, cc11, cc12, cc13, cc14⟩ := HS W hVW
            exact .inl ⟨_, W, by go_simp, rfl, Below.refl _ _⟩
          · obtain rfl := Option.some.inj hoo
            have q11 : uu 11 = .agg #[.int .u8 (m0.toNat : Int), .int .u8 (m1.toNat : Int), .int .u8 (m2.toNat : Int), .int .u8 (m3.toNat : Int), .int .u8 (m4.toNat : Int), .int .u8 (m5.toNat : Int)] := hd 11 (by kernel_rfl)
            have q9 : uu 9 = .bool false := hd 9 (by kernel_rfl)
            refine .inl ⟨wanted_yes rfl (yielded_put (k := 55) (by kernel_rfl) (by kernel_rfl) 63 rfl (by decide) q9), ?_⟩
            generalize hev : Act.eval _ = ev
            have ec : ∀ c, ev (.const c) = c := fun c => by rw [← hev]; rfl
            have ef : ∀ f, ev (.func f) = .func (.func f) #[] #[] := fun f => by rw [← hev]; rfl
            have e57 : ev (.tmp 57) = .agg #[.int .u8 (m0.toNat : Int), .int .u8 (m1.toNat : Int), .int .u8 (m2.toNat : Int), .int .u8 (m3.toNat : Int), .int .u8 (m4.toNat : Int), .int .u8 (m5.toNat : Int)] := by rw [← hev]; exact (eval_put (by kernel_rfl) 63 rfl (by decide)).trans q11
            clear hev hd q11 q9
            exact .inr ⟨_, _, _, by go_simp, HU W, fun e w' he => ⟨_, he.1, rfl, he.2⟩⟩
          · obtain rfl := Option.some.inj hoo
            have q12 : uu 12 = .bool true := hd 12 (by kernel_rfl)
            have q9 : uu 9 = .bool false := hd 9 (by kernel_rfl)
            refine .inl ⟨wanted_yes rfl (yielded_put (k := 55) (by kernel_rfl) (by kernel_rfl) 63 rfl (by decide) q9), ?_⟩
            generalize hev : Act.eval _ = ev
            have ec : ∀ c, ev (.const c) = c := fun c => by rw [← hev]; rfl
            have e58 : ev (.tmp 58) = .bool true := by rw [← hev]; exact (eval_put (by kernel_rfl) 63 rfl (by decide)).trans q12
            clear hev hd q12 q9
            exact .inl ⟨_, W, by go_simp, rfl, Below.refl _ _⟩
          · obtain rfl := Option.some.inj hoo
            have q9 : uu 9 = .bool false := hd 9 (by kernel_rfl)
            have q13 : uu 13 = .bool false := hd 13 (by kernel_rfl)
            refine .inl ⟨wanted_none rfl, ?_⟩
            generalize hev : Act.eval _ = ev
            have ec : ∀ c, ev (.const c) = c := fun c => by rw [← hev]; rfl
            have e55 : ev (.tmp 55) = .bool false := by rw [← hev]; exact (eval_put (by kernel_rfl) 63 rfl (by decide)).trans q9
            have e59 : ev (.tmp 59) = .bool false := by rw [← hev]; exact (eval_put (by kernel_rfl) 63 rfl (by decide)).trans q13
            clear hev hd q9 q13
            exact .inl ⟨_, W, by go_simp, rfl, Below.refl _ _⟩
          · simp at hoo
        · intro uu W hVW hall
          have q14 : uu 14 = .bool false := hall 14 (by decide)
          replace hB := hB.trans (hVW.mono hB.size)
          replace K0 := K0.next hVW
          replace K1 := K1.next hVW
          clear hall HS HU r6 hVW
          simp only [putAll, Act.put, Nat.reduceAdd, q14]
          simp only [List.setIfInBounds_toArray, List.set_cons_succ, List.set_cons_zero]
          obtain ⟨p0, p1, p2, p3, p4, p5, p6, p7, p8, p9, p10, p11, p12, p13, p14, -⟩ := K1.get15
          obtain ⟨qp0, qp1, qp2, qp3, qp4, qp5, qp6, qp7, qp8, qp9, qp10, qp11, qp12, qp13, qp14, qf0, qf1, qf2, qf3, qf4, qf5, qf6, qf7, qf8, qf9, qf10, qf11, qf12, qf13, qf14⟩ := K0.get15
          clear K0 K1
          go_wp2_with fail
          simp [bodyPost, results, Try.results23, go_sem, *]
          exact HG.out ⟨hh, by simp, hu⟩ _ (bset15 hB (Nat.le_refl _) (.int .u16 2) (.int .u8 (m0.toNat : Int)) (.int .u8 (m1.toNat : Int)) (.int .u8 (m2.toNat : Int)) (.int .u8 (m3.toNat : Int)) (.int .u8 (m4.toNat : Int)) (.int .u8 (m5.toNat : Int)) (.int .u32 (s.toNat : Int)) (.int .u8 (n0.toNat : Int)) (.int .u8 (n1.toNat : Int)) (.int .u8 (n2.toNat : Int)) (.int .u8 (n3.toNat : Int)) (.int .u8 (n4.toNat : Int)) (.int .u8 (n5.toNat : Int)) (.int .u32 (d.toNat : Int)))
    · skip
      refine region_put (by kernel_rfl) (by kernel_rfl) (by kernel_rfl) 63 rfl (by kernel_rfl) V8 (fun i v W => match i with
          | 0 => v = .slice (some ⟨b, off, none⟩) xs.length c
          | 1 => ∃ L A c, v = .slice A L.length c ∧ Hid (L = hd6) ∧ Rd bv W W.heap.size A c L
          | 2 => ∃ L A c, v = .slice A L.length c ∧ Hid (L = [0, 1, 8, 0, 6, 4]) ∧ Rd bv W W.heap.size A c L
          | 3 => v = .bool false
          | 4 => v = .bool true
          | 5 => v = .bool true
          | 6 => v = undef
          | 7 => v = undef
          | 8 => v = .bool true
          | 9 => v = .bool true
          | 10 => v = undef
          | 11 => v = undef
          | 12 => v = undef
          | 13 => v = undef
          | 14 => v = .bool true
          | _ => True) (Below.refl _ _) ?_ ?_ ?_
      · intro i v W W' h hb
        match i, h with
        | 0, h => exact h
        | 1, h => obtain ⟨L, A, c, h1, h2, h3⟩ := h; exact ⟨L, A, c, h1, h2, h3.next hb⟩
        | 2, h => obtain ⟨L, A, c, h1, h2, h3⟩ := h; exact ⟨L, A, c, h1, h2, h3.next hb⟩
        | 3, h => exact h
        | 4, h => exact h
        | 5, h => exact h
        | 6, h => exact h
        | 7, h => exact h
        | 8, h => exact h
        | 9, h => exact h
        | 10, h => exact h
        | 11, h => exact h
        | 12, h => exact h
        | 13, h => exact h
        | 14, h => exact h
        | _ + 15, _ => trivial
      · intro i o uu W hoo hVW hd
        rcases i with _|_|_|_|_|_|_|_|_|_|_|_|_|_|_|i
        · obtain rfl := Option.some.inj hoo
          refine .inl ⟨wanted_none rfl, ?_⟩
          generalize hev : Act.eval _ = ev
          have ec : ∀ c, ev (.const c) = c := fun c => by rw [← hev]; rfl
          have e0 : ev (.tmp 0) = .slice (some ⟨b, off, none⟩) xs.length c := by rw [← hev]; exact eval_old (by kernel_rfl) 63 rfl (by decide) rfl
          clear hev hd
          exact .inl ⟨_, W, by go_simp, rfl, Below.refl _ _⟩
        · obtain rfl := Option.some.inj hoo
          have q0 : uu 0 = .slice (some ⟨b, off, none⟩) xs.length c := hd 0 (by kernel_rfl)
          refine .inl ⟨wanted_none rfl, ?_⟩
          generalize hev : Act.eval _ = ev
          have ec : ∀ c, ev (.const c) = c := fun c => by rw [← hev]; rfl
          have e46 : ev (.tmp 46) = .slice (some ⟨b, off, none⟩) xs.length c := by rw [← hev]; exact (eval_put (by kernel_rfl) 63 rfl (by decide)).trans q0
          clear hev hd q0
          exact .inl ⟨.slice (some ⟨b, off, none⟩) 6 c, W, by go_simp, ⟨hd6, some ⟨b, off, none⟩, c, by rw [l6], rfl, r6 W (hB.trans (hVW.mono hB.size))⟩, Below.refl _ _⟩
        · obtain rfl := Option.some.inj hoo
          refine .inl ⟨wanted_none rfl, ?_⟩
          generalize hev : Act.eval _ = ev
          have ec : ∀ c, ev (.const c) = c := fun c => by rw [← hev]; rfl
          have ef : ∀ f, ev (.func f) = .func (.func f) #[] #[] := fun f => by rw [← hev]; rfl
          clear hev hd
          exact .inr ⟨_, _, _, by go_simp, akind_any W, fun e w' he => by
            obtain ⟨L, A, c, rfl, HL, hr, hb⟩ := he
            exact ⟨_, rfl, ⟨L, A, c, rfl, HL, hr⟩, hb⟩⟩
        · obtain rfl := Option.some.inj hoo
          obtain ⟨L1, A1, c1, q1, HL1, r1⟩ := hd 1 (by kernel_rfl)
          obtain ⟨L2, A2, c2, q2, HL2, r2⟩ := hd 2 (by kernel_rfl)
          refine .inl ⟨wanted_none rfl, ?_⟩
          generalize hev : Act.eval _ = ev
          have ec : ∀ c, ev (.const c) = c := fun c => by rw [← hev]; rfl
          have ef : ∀ f, ev (.func f) = .func (.func f) #[] #[] := fun f => by rw [← hev]; rfl
          have e47 : ev (.tmp 47) = .slice A1 L1.length c1 := by rw [← hev]; exact (eval_put (by kernel_rfl) 63 rfl (by decide)).trans q1
          have e48 : ev (.tmp 48) = .slice A2 L2.length c2 := by rw [← hev]; exact (eval_put (by kernel_rfl) 63 rfl (by decide)).trans q2
          clear hev hd q1 q2
          exact .inr ⟨_, _, _, by go_simp, same_no _ _ _ _ L1 L2 W _ r1 r2 (by rw [HL1.out, HL2.out]; exact hh), fun e w' he => ⟨_, he.1, rfl, he.2 ▸ Below.refl _ _⟩⟩
        · obtain rfl := Option.some.inj hoo
          have q3 : uu 3 = .bool false := hd 3 (by kernel_rfl)
          refine .inl ⟨wanted_none rfl, ?_⟩
          generalize hev : Act.eval _ = ev
          have ec : ∀ c, ev (.const c) = c := fun c => by rw [← hev]; rfl
          have e49 : ev (.tmp 49) = .bool false := by rw [← hev]; exact (eval_put (by kernel_rfl) 63 rfl (by decide)).trans q3
          clear hev hd q3
          exact .inl ⟨_, W, by go_simp, rfl, Below.refl _ _⟩
        · obtain rfl := Option.some.inj hoo
          have q4 : uu 4 = .bool true := hd 4 (by kernel_rfl)
          refine .inl ⟨wanted_none rfl, ?_⟩
          generalize hev : Act.eval _ = ev
          have ec : ∀ c, ev (.const c) = c := fun c => by rw [← hev]; rfl
          have e50 : ev (.tmp 50) = .bool true := by rw [← hev]; exact (eval_put (by kernel_rfl) 63 rfl (by decide)).trans q4
          clear hev hd q4
          exact .inl ⟨_, W, by go_simp, rfl, Below.refl _ _⟩
        · obtain rfl := Option.some.inj hoo
          have q5 : uu 5 = .bool true := hd 5 (by kernel_rfl)
          exact .inr ⟨wanted_no rfl (yielded_put (k := 51) (by kernel_rfl) (by kernel_rfl) 63 rfl (by decide) q5), rfl⟩
        · obtain rfl := Option.some.inj hoo
          have q5 : uu 5 = .bool true := hd 5 (by kernel_rfl)
          exact .inr ⟨wanted_no rfl (yielded_put (k := 51) (by kernel_rfl) (by kernel_rfl) 63 rfl (by decide) q5), rfl⟩
        · obtain rfl := Option.some.inj hoo
          have q5 : uu 5 = .bool true := hd 5 (by kernel_rfl)
          refine .inl ⟨wanted_none rfl, ?_⟩
          generalize hev : Act.eval _ = ev
          have ec : ∀ c, ev (.const c) = c := fun c => by rw [← hev]; rfl
          have e51 : ev (.tmp 51) = .bool true := by rw [← hev]; exact (eval_put (by kernel_rfl) 63 rfl (by decide)).trans q5
          clear hev hd q5
          exact .inl ⟨_, W, by go_simp, rfl, Below.refl _ _⟩
        · obtain rfl := Option.some.inj hoo
          have q8 : uu 8 = .bool true := hd 8 (by kernel_rfl)
          refine .inl ⟨wanted_none rfl, ?_⟩
          generalize hev : Act.eval _ = ev
          have ec : ∀ c, ev (.const c) = c := fun c => by rw [← hev]; rfl
          have e54 : ev (.tmp 54) = .bool true := by rw [← hev]; exact (eval_put (by kernel_rfl) 63 rfl (by decide)).trans q8
          clear hev hd q8
          exact .inl ⟨_, W, by go_simp, rfl, Below.refl _ _⟩
        · obtain rfl := Option.some.inj hoo
          have q9 : uu 9 = .bool true := hd 9 (by kernel_rfl)
          exact .inr ⟨wanted_no rfl (yielded_put (k := 55) (by kernel_rfl) (by kernel_rfl) 63 rfl (by decide) q9), rfl⟩
        · obtain rfl := Option.some.inj hoo
          have q9 : uu 9 = .bool true := hd 9 (by kernel_rfl)
          exact .inr ⟨wanted_no rfl (yielded_put (k := 55) (by kernel_rfl) (by kernel_rfl) 63 rfl (by decide) q9), rfl⟩
        · obtain rfl := Option.some.inj hoo
          have q9 : uu 9 = .bool true := hd 9 (by kernel_rfl)
          exact .inr ⟨wanted_no rfl (yielded_put (k := 55) (by kernel_rfl) (by kernel_rfl) 63 rfl (by decide) q9), rfl⟩
        · obtain rfl := Option.some.inj hoo
          have q9 : uu 9 = .bool true := hd 9 (by kernel_rfl)
          exact .inr ⟨wanted_no rfl (yielded_put (k := 55) (by kernel_rfl) (by kernel_rfl) 63 rfl (by decide) q9), rfl⟩
        · obtain rfl := Option.some.inj hoo
          have q9 : uu 9 = .bool true := hd 9 (by kernel_rfl)
          refine .inl ⟨wanted_none rfl, ?_⟩
          generalize hev : Act.eval _ = ev
          have ec : ∀ c, ev (.const c) = c := fun c => by rw [← hev]; rfl
          have e55 : ev (.tmp 55) = .bool true := by rw [← hev]; exact (eval_put (by kernel_rfl) 63 rfl (by decide)).trans q9
          clear hev hd q9
          exact .inl ⟨_, W, by go_simp, rfl, Below.refl _ _⟩
        · simp at hoo
      · intro uu W hVW hall
        have q14 : uu 14 = .bool true := hall 14 (by decide)
        replace hB := hB.trans (hVW.mono hB.size)
        replace K0 := K0.next hVW
        replace K1 := K1.next hVW
        clear hall HS HU r6 hVW
        simp only [putAll, Act.put, Nat.reduceAdd, q14]
        simp only [List.setIfInBounds_toArray, List.set_cons_succ, List.set_cons_zero]
        obtain ⟨p0, p1, p2, p3, p4, p5, p6, p7, p8, p9, p10, p11, p12, p13, p14, -⟩ := K1.get15
        obtain ⟨qp0, qp1, qp2, qp3, qp4, qp5, qp6, qp7, qp8, qp9, qp10, qp11, qp12, qp13, qp14, qf0, qf1, qf2, qf3, qf4, qf5, qf6, qf7, qf8, qf9, qf10, qf11, qf12, qf13, qf14⟩ := K0.get15
        clear K0 K1
        go_wp2_with fail
        simp [bodyPost, results, Try.results23, go_sem, *]
        exact HE.out (fun h => hh h.1) _ (bset15 hB (Nat.le_refl _) (.int .u16 0) (.int .u8 0) (.int .u8 0) (.int .u8 0) (.int .u8 0) (.int .u8 0) (.int .u8 0) (.int .u32 0) (.int .u8 0) (.int .u8 0) (.int .u8 0) (.int .u8 0) (.int .u8 0) (.int .u8 0) (.int .u32 0))

end Go.Proofs.Ytiokofpmmlbncab
