/- A walk of the statements on package arp. -/
import Derived.Test.YtiokofpmmlbncabLaw05
namespace Go.Proofs.Ytiokofpmmlbncab
open Go.RowKit

set_option maxHeartbeats 8000000 in
set_option maxRecDepth 10000 in
theorem ArpPuts_u (o : UInt16) (m0 m1 m2 m3 m4 m5 : UInt8) (s : UInt32) (n0 n1 n2 n3 n4 n5 : UInt8) (d : UInt32) (a1 : Option Addr) (cap1 : Nat) (ys zs : List UInt8) (hzl : zs.length ≤ 40) (hzs : ys.take 40 = zs) (w : World) (hz : Rd bv w w.heap.size a1 cap1 ys) (HLT : Hid (decide ((o.toNat : Int) < 1) = false)) (HGT : Hid (decide ((2 : Int) < (o.toNat : Int)) = false)) (HUN : Hid (uniB m0 m1 m2 m3 m4 m5 = false)) :
    Calls Try.prog 6 #[.agg #[.int .u16 (o.toNat : Int), .int .u8 (m0.toNat : Int), .int .u8 (m1.toNat : Int), .int .u8 (m2.toNat : Int), .int .u8 (m3.toNat : Int), .int .u8 (m4.toNat : Int), .int .u8 (m5.toNat : Int), .int .u32 (s.toNat : Int), .int .u8 (n0.toNat : Int), .int .u8 (n1.toNat : Int), .int .u8 (n2.toNat : Int), .int .u8 (n3.toNat : Int), .int .u8 (n4.toNat : Int), .int .u8 (n5.toNat : Int), .int .u32 (d.toNat : Int)], .slice a1 ys.length cap1] w fun e w' => e = .returned (.bool true) ∧ Below w.heap.size w w' := by
  have HP := fun W => Lib.hid (aput_any o m0 m1 m2 m3 m4 m5 s n0 n1 n2 n3 n4 n5 d W)
  have HR := fun W => Lib.hid (rput_arp o m0 m1 m2 m3 m4 m5 s n0 n1 n2 n3 n4 n5 d W)
  have HF : ∀ W, Rd bv W W.heap.size a1 cap1 ys → Hid (Calls Try.prog 14 #[.slice a1 ys.length cap1, .int .i64 40] W fun e w' => e = .returned (.slice a1 zs.length cap1) ∧ W = w') ∧ Hid (Rd bv W W.heap.size a1 cap1 zs) := fun W h => by
    have g := few_rd h 40 (by omega)
    have g2 := h.take 40
    rw [hzs] at g g2
    exact ⟨g, g2⟩
  have HU : ∀ W, Hid (Calls Try.prog 29 #[.agg #[.int .u8 (m0.toNat : Int), .int .u8 (m1.toNat : Int), .int .u8 (m2.toNat : Int), .int .u8 (m3.toNat : Int), .int .u8 (m4.toNat : Int), .int .u8 (m5.toNat : Int)]] W fun e w' => e = .returned (.bool false) ∧ Below W.heap.size W w') := fun W => by
    have := auni_any m0 m1 m2 m3 m4 m5 W
    rw [HUN.out] at this
    exact this
  have HQ : ∀ X, X = arpB o m0 m1 m2 m3 m4 m5 s n0 n1 n2 n3 n4 n5 d ++ zs → ∀ A c W, Rd bv W W.heap.size A c X → Hid (Calls Try.prog 23 #[.slice A X.length c] W fun e w' => e = .returned (.tuple #[.agg #[.int .u16 0, .int .u8 0, .int .u8 0, .int .u8 0, .int .u8 0, .int .u8 0, .int .u8 0, .int .u32 0, .int .u8 0, .int .u8 0, .int .u8 0, .int .u8 0, .int .u8 0, .int .u8 0, .int .u32 0], .int .i64 3]) ∧ Below W.heap.size W w') := by
    intro X hX A c W hr
    exact (aparse_put o m0 m1 m2 m3 m4 m5 s n0 n1 n2 n3 n4 n5 d zs X (by omega) hX A c W hr).2 (fun h => by have := HUN.out; rw [h.2] at this; cases this)
  have HLL : ∀ L : List UInt8, L = arpB o m0 m1 m2 m3 m4 m5 s n0 n1 n2 n3 n4 n5 d → L.length + zs.length ≤ 1000000000 := fun L h => by rw [h, arpB_len]; omega
  have hB := bnextA (Below.refl w.heap.size w) (.cells #[.int .u16 (o.toNat : Int), .int .u8 (m0.toNat : Int), .int .u8 (m1.toNat : Int), .int .u8 (m2.toNat : Int), .int .u8 (m3.toNat : Int), .int .u8 (m4.toNat : Int), .int .u8 (m5.toNat : Int), .int .u32 (s.toNat : Int), .int .u8 (n0.toNat : Int), .int .u8 (n1.toNat : Int), .int .u8 (n2.toNat : Int), .int .u8 (n3.toNat : Int), .int .u8 (n4.toNat : Int), .int .u8 (n5.toNat : Int), .int .u32 (d.toNat : Int)] 47)
  replace hz := hz.nextA (.cells #[.int .u16 (o.toNat : Int), .int .u8 (m0.toNat : Int), .int .u8 (m1.toNat : Int), .int .u8 (m2.toNat : Int), .int .u8 (m3.toNat : Int), .int .u8 (m4.toNat : Int), .int .u8 (m5.toNat : Int), .int .u32 (s.toNat : Int), .int .u8 (n0.toNat : Int), .int .u8 (n1.toNat : Int), .int .u8 (n2.toNat : Int), .int .u8 (n3.toNat : Int), .int .u8 (n4.toNat : Int), .int .u8 (n5.toNat : Int), .int .u32 (d.toNat : Int)] 47)
  have K1 := Blk.new w #[.int .u16 (o.toNat : Int), .int .u8 (m0.toNat : Int), .int .u8 (m1.toNat : Int), .int .u8 (m2.toNat : Int), .int .u8 (m3.toNat : Int), .int .u8 (m4.toNat : Int), .int .u8 (m5.toNat : Int), .int .u32 (s.toNat : Int), .int .u8 (n0.toNat : Int), .int .u8 (n1.toNat : Int), .int .u8 (n2.toNat : Int), .int .u8 (n3.toNat : Int), .int .u8 (n4.toNat : Int), .int .u8 (n5.toNat : Int), .int .u32 (d.toNat : Int)] 47
  obtain ⟨p0, p1, p2, p3, p4, p5, p6, p7, p8, p9, p10, p11, p12, p13, p14, -⟩ := K1.get15
  go_enter Try.func6, Try.ntmps6
  go_wp2_with fail
  generalize w.alloc (.cells #[.int .u16 (o.toNat : Int), .int .u8 (m0.toNat : Int), .int .u8 (m1.toNat : Int), .int .u8 (m2.toNat : Int), .int .u8 (m3.toNat : Int), .int .u8 (m4.toNat : Int), .int .u8 (m5.toNat : Int), .int .u32 (s.toNat : Int), .int .u8 (n0.toNat : Int), .int .u8 (n1.toNat : Int), .int .u8 (n2.toNat : Int), .int .u8 (n3.toNat : Int), .int .u8 (n4.toNat : Int), .int .u8 (n5.toNat : Int), .int .u32 (d.toNat : Int)] 47) = V at *
  refine (HP _).out.mono ?_
  rintro e w1 ⟨L, A, c, rfl, HL, r, hb⟩
  replace hB := bnext hB hb
  replace hz := hz.next hb
  replace K1 := K1.next hb
  clear hb p0 p1 p2 p3 p4 p5 p6 p7 p8 p9 p10 p11 p12 p13 p14 HP
  obtain ⟨p0, p1, p2, p3, p4, p5, p6, p7, p8, p9, p10, p11, p12, p13, p14, -⟩ := K1.get15
  go_wp2_with fail
  refine (HR _).out.mono ?_
  rintro e w2 ⟨L2, A2, c2, rfl, HL2, r2, hb⟩
  replace hB := bnext hB hb
  replace hz := hz.next hb
  replace K1 := K1.next hb
  replace r := r.next hb
  clear hb p0 p1 p2 p3 p4 p5 p6 p7 p8 p9 p10 p11 p12 p13 p14 HR
  go_wp2_with fail
  refine (rsame_eq A A2 c c2 L L2 w2 _ r r2 (by rw [HL.out, HL2.out])).mono ?_
  rintro e w3 ⟨rfl, hd⟩
  replace hd := hd.bel
  replace hB := bnext hB hd
  replace hz := hz.next hd
  replace K1 := K1.next hd
  replace r := r.next hd
  clear hd r2 HL2
  go_wp2_with fail
  refine (HF _ hz).1.out.mono ?_
  rintro e w4 ⟨rfl, rfl⟩
  go_wp2_with fail
  refine (radd_any A a1 c cap1 L zs _ r (HF _ hz).2.out (HLL L HL.out)).mono ?_
  rintro e w4 ⟨v4, rfl, ho, hb⟩
  obtain ⟨L4, A4, c4, HL4, rfl, r4⟩ := ho.rdv
  replace hB := bnext hB hb
  replace K1 := K1.next hb
  clear hb ho r hz HF
  go_wp2_with fail
  refine (HQ L4 (by rw [HL4.out, HL.out]) _ _ _ r4).out.mono ?_
  rintro e w5 ⟨rfl, hb⟩
  replace hB := bnextA (bnext hB hb) (.cells #[.int .u16 0, .int .u8 0, .int .u8 0, .int .u8 0, .int .u8 0, .int .u8 0, .int .u8 0, .int .u32 0, .int .u8 0, .int .u8 0, .int .u8 0, .int .u8 0, .int .u8 0, .int .u8 0, .int .u32 0] 47)
  replace K1 := (K1.next hb).alloc (.cells #[.int .u16 0, .int .u8 0, .int .u8 0, .int .u8 0, .int .u8 0, .int .u8 0, .int .u8 0, .int .u32 0, .int .u8 0, .int .u8 0, .int .u8 0, .int .u8 0, .int .u8 0, .int .u8 0, .int .u32 0] 47)
  have K2 := Blk.new w5 #[.int .u16 0, .int .u8 0, .int .u8 0, .int .u8 0, .int .u8 0, .int .u8 0, .int .u8 0, .int .u32 0, .int .u8 0, .int .u8 0, .int .u8 0, .int .u8 0, .int .u8 0, .int .u8 0, .int .u32 0] 47
  obtain ⟨p0, p1, p2, p3, p4, p5, p6, p7, p8, p9, p10, p11, p12, p13, p14, -⟩ := K1.get15
  obtain ⟨q0, q1, q2, q3, q4, q5, q6, q7, q8, q9, q10, q11, q12, q13, q14, -⟩ := K2.get15
  clear hb HQ r4 HL4 HL HLL
  have hHLT := HLT.out
  have hHGT := HGT.out
  go_wp2_with fail
  refine (HU _).out.mono ?_
  rintro e w6 ⟨rfl, hb⟩
  replace hB := bnext hB hb
  replace K1 := K1.next hb
  replace K2 := K2.next hb
  clear hb p0 p1 p2 p3 p4 p5 p6 p7 p8 p9 p10 p11 p12 p13 p14 q0 q1 q2 q3 q4 q5 q6 q7 q8 q9 q10 q11 q12 q13 q14 HU hHLT hHGT
  obtain ⟨p0, p1, p2, p3, p4, p5, p6, p7, p8, p9, p10, p11, p12, p13, p14, -⟩ := K1.get15
  obtain ⟨q0, q1, q2, q3, q4, q5, q6, q7, q8, q9, q10, q11, q12, q13, q14, -⟩ := K2.get15
  go_wp2_with fail
  refine (lives05_any _).mono ?_
  rintro e w7 ⟨rfl, hb⟩
  replace hB := bnext hB hb
  clear hb K1 K2
  go_wp2_with fail
  go_ret
  exact ⟨rfl, hB⟩
end Go.Proofs.Ytiokofpmmlbncab
