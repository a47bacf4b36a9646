/- The reference's Parse of ARP packets. -/
import Derived.Test.YtiokofpmmlbncabArp2
namespace Go.Proofs.Ytiokofpmmlbncab
open Go.RowKit

theorem be16_bk (xs : List UInt8) (k : Nat) (h : k + 2 ≤ xs.length) (a : UInt16) (ha : beN ((xs.drop k).take 2) = a.toNat) : be16 a = (xs.drop k).take 2 := by
  rw [take_two xs k h] at ha ⊢
  rw [beN_two] at ha
  have hx := (xs[k]).toNat_lt
  have hy := (xs[k + 1]).toNat_lt
  rw [be16, ← ha]
  have e1 : UInt8.ofNat (((xs[k]).toNat * 256 + (xs[k + 1]).toNat) / 256) = xs[k] := UInt8.toNat_inj.1 (by simp; try omega)
  have e2 : UInt8.ofNat (((xs[k]).toNat * 256 + (xs[k + 1]).toNat) % 256) = xs[k + 1] := UInt8.toNat_inj.1 (by simp; try omega)
  rw [e1, e2]
theorem be32_bk (xs : List UInt8) (k : Nat) (h : k + 4 ≤ xs.length) (a : UInt32) (ha : beN ((xs.drop k).take 4) = a.toNat) : be32 a = (xs.drop k).take 4 := by
  rw [take_four xs k h] at ha ⊢
  rw [beN_four] at ha
  have h0 := (xs[k]).toNat_lt
  have h1 := (xs[k + 1]).toNat_lt
  have h2 := (xs[k + 2]).toNat_lt
  have h3 := (xs[k + 3]).toNat_lt
  rw [be32, ← ha]
  generalize xs[k] = x0 at *
  generalize xs[k + 1] = x1 at *
  generalize xs[k + 2] = x2 at *
  generalize xs[k + 3] = x3 at *
  have e0 : UInt8.ofNat ((x0.toNat * 16777216 + x1.toNat * 65536 + x2.toNat * 256 + x3.toNat) / 16777216) = x0 := UInt8.toNat_inj.1 (by simp; try omega)
  have e1 : UInt8.ofNat ((x0.toNat * 16777216 + x1.toNat * 65536 + x2.toNat * 256 + x3.toNat) / 65536 % 256) = x1 := UInt8.toNat_inj.1 (by simp; try omega)
  have e2 : UInt8.ofNat ((x0.toNat * 16777216 + x1.toNat * 65536 + x2.toNat * 256 + x3.toNat) / 256 % 256) = x2 := UInt8.toNat_inj.1 (by simp; try omega)
  have e3 : UInt8.ofNat ((x0.toNat * 16777216 + x1.toNat * 65536 + x2.toNat * 256 + x3.toNat) % 256) = x3 := UInt8.toNat_inj.1 (by simp; try omega)
  rw [e0, e1, e2, e3]
theorem dt_cut (xs : List UInt8) (i j n : Nat) (h : j ≤ n) : (xs.drop i).take n = (xs.drop i).take j ++ (xs.drop (i + j)).take (n - j) := by
  rw [show n = j + (n - j) by omega, List.take_add, List.drop_drop]
  simp
/-- The first 28 bytes, part by part. -/
theorem arp_cut (xs : List UInt8) (h28 : 28 ≤ xs.length) (hl : xs.length ≤ 1000000) (o : UInt16) (m0 m1 m2 m3 m4 m5 : UInt8) (s : UInt32) (n0 n1 n2 n3 n4 n5 : UInt8) (d : UInt32) (ho : beN ((xs.drop 6).take 2) = o.toNat) (hm : (xs.drop 8).take 6 = [m0, m1, m2, m3, m4, m5]) (hs : beN ((xs.drop 14).take 4) = s.toNat) (hn : (xs.drop 18).take 6 = [n0, n1, n2, n3, n4, n5]) (hd : beN ((xs.drop 24).take 4) = d.toNat) : xs.take 28 = xs.take 6 ++ (be16 o ++ ([m0, m1, m2, m3, m4, m5] ++ (be32 s ++ ([n0, n1, n2, n3, n4, n5] ++ be32 d)))) := by
  rw [be16_bk xs 6 (by omega) o ho, be32_bk xs 14 (by omega) s hs, be32_bk xs 24 (by omega) d hd, ← hm, ← hn]
  have s0 := dt_cut xs 0 6 28 (by omega)
  have s6 := dt_cut xs 6 2 22 (by omega)
  have s8 := dt_cut xs 8 6 20 (by omega)
  have s14 := dt_cut xs 14 4 14 (by omega)
  have s18 := dt_cut xs 18 6 10 (by omega)
  simp only [Nat.reduceAdd, Nat.reduceSub, Nat.zero_add, List.drop_zero] at s0 s6 s8 s14 s18
  rw [← s18, ← s14, ← s8, ← s6, ← s0]
theorem arp_same (xs : List UInt8) (h28 : 28 ≤ xs.length) (hl : xs.length ≤ 1000000) (o : UInt16) (m0 m1 m2 m3 m4 m5 : UInt8) (s : UInt32) (n0 n1 n2 n3 n4 n5 : UInt8) (d : UInt32) (ho : beN ((xs.drop 6).take 2) = o.toNat) (hm : (xs.drop 8).take 6 = [m0, m1, m2, m3, m4, m5]) (hs : beN ((xs.drop 14).take 4) = s.toNat) (hn : (xs.drop 18).take 6 = [n0, n1, n2, n3, n4, n5]) (hd : beN ((xs.drop 24).take 4) = d.toNat) : arpB o m0 m1 m2 m3 m4 m5 s n0 n1 n2 n3 n4 n5 d = xs.take 28 ↔ xs.take 6 = [0, 1, 8, 0, 6, 4] := by
  rw [arp_cut xs h28 hl o m0 m1 m2 m3 m4 m5 s n0 n1 n2 n3 n4 n5 d ho hm hs hn hd, arpB]
  constructor
  · intro h
    have := congrArg (List.take 6) h
    exact ((List.take_left' (by simp; omega)).symm.trans this.symm).trans rfl
  · intro h
    rw [h]
/-- The sum of the first j bytes. -/
def macS (ms : List UInt8) : Nat → Nat
  | 0 => 0
  | j + 1 => macS ms j + (ms.getD j 0).toNat
theorem macS_le (ms : List UInt8) (j : Nat) : macS ms j ≤ 255 * j := by
  induction j with
  | zero => simp [macS]
  | succ j ih =>
    have := (ms.getD j 0).toNat_lt
    simp only [macS]
    omega
theorem uni_of (m0 m1 m2 m3 m4 m5 : UInt8) : uniB m0 m1 m2 m3 m4 m5 = true ↔ (m0.toNat % 2 = 0 ∧ macS [m0, m1, m2, m3, m4, m5] 6 ≠ 0) := by
  have e : macS [m0, m1, m2, m3, m4, m5] 6 = m0.toNat + m1.toNat + m2.toNat + m3.toNat + m4.toNat + m5.toNat := by simp [macS]
  rw [e, uniB]
  simp
  omega

theorem rarp_short (A : Option Addr) (c : Nat) (xs : List UInt8) (w : World) (hr : Rd bv w w.heap.size A c xs) (h8 : xs.length < 28) :
    Calls Try.prog 24 #[.slice A xs.length c] w fun e w' => e = .returned (.tuple #[.agg #[.int .u16 0, .int .u8 0, .int .u8 0, .int .u8 0, .int .u8 0, .int .u8 0, .int .u8 0, .int .u32 0, .int .u8 0, .int .u8 0, .int .u8 0, .int .u8 0, .int .u8 0, .int .u8 0, .int .u32 0], .int .i64 4]) ∧ Below w.heap.size w w' := by
  have hlc := hr.len
  have hcc := hr.cap
  obtain ⟨p0, p1, p2, p3, p4, p5, p6, p7, p8, p9, p10, p11, p12, p13, p14, f0, f1, f2, f3, f4, f5, f6, f7, f8, f9, f10, f11, f12, f13, f14⟩ := (Blk.new w #[.int .u16 0, .int .u8 0, .int .u8 0, .int .u8 0, .int .u8 0, .int .u8 0, .int .u8 0, .int .u32 0, .int .u8 0, .int .u8 0, .int .u8 0, .int .u8 0, .int .u8 0, .int .u8 0, .int .u32 0] 47).get15
  go_enter Try.func24, Try.ntmps24
  go_wp2_with fail
  simp [bodyPost, results, Try.results24, go_sem, *]
  exact bnextA (Below.refl _ _) _

end Go.Proofs.Ytiokofpmmlbncab
