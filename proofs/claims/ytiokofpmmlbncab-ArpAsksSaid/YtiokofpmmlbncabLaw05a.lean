/- A walk of the statements on package arp. -/
import Derived.Test.YtiokofpmmlbncabLaw05
namespace Go.Proofs.Ytiokofpmmlbncab
open Go.RowKit

set_option maxHeartbeats 8000000 in
set_option maxRecDepth 10000 in
theorem ArpAsks_walk (x0 x1 x2 x3 x4 x5 x6 x7 x8 x9 x10 x11 x12 x13 x14 x15 x16 x17 x18 x19 : Int) (w : World) (v0 : (Lit.int .u8 x0).wf = true) (v1 : (Lit.int .u8 x1).wf = true) (v2 : (Lit.int .u8 x2).wf = true) (v3 : (Lit.int .u8 x3).wf = true) (v4 : (Lit.int .u8 x4).wf = true) (v5 : (Lit.int .u8 x5).wf = true) (v6 : (Lit.int .u8 x6).wf = true) (v7 : (Lit.int .u8 x7).wf = true) (v8 : (Lit.int .u8 x8).wf = true) (v9 : (Lit.int .u8 x9).wf = true) (v10 : (Lit.int .u8 x10).wf = true) (v11 : (Lit.int .u8 x11).wf = true) (v12 : (Lit.int .u32 x12).wf = true) (v13 : (Lit.int .u32 x13).wf = true) (v14 : (Lit.int .u8 x14).wf = true) (v15 : (Lit.int .u8 x15).wf = true) (v16 : (Lit.int .u8 x16).wf = true) (v17 : (Lit.int .u8 x17).wf = true) (v18 : (Lit.int .u8 x18).wf = true) (v19 : (Lit.int .u8 x19).wf = true) :
    Calls Try.prog 7 #[.agg #[.int .u8 x0, .int .u8 x1, .int .u8 x2, .int .u8 x3, .int .u8 x4, .int .u8 x5], .agg #[.int .u8 x6, .int .u8 x7, .int .u8 x8, .int .u8 x9, .int .u8 x10, .int .u8 x11], .int .u32 x12, .int .u32 x13, .agg #[.int .u8 x14, .int .u8 x15, .int .u8 x16, .int .u8 x17, .int .u8 x18, .int .u8 x19]] w fun e w' => e = .returned (.bool true) ∧ Below w.heap.size w w' := by
  obtain ⟨m0, rfl⟩ := u8_of v0
  obtain ⟨m1, rfl⟩ := u8_of v1
  obtain ⟨m2, rfl⟩ := u8_of v2
  obtain ⟨m3, rfl⟩ := u8_of v3
  obtain ⟨m4, rfl⟩ := u8_of v4
  obtain ⟨m5, rfl⟩ := u8_of v5
  obtain ⟨n0, rfl⟩ := u8_of v6
  obtain ⟨n1, rfl⟩ := u8_of v7
  obtain ⟨n2, rfl⟩ := u8_of v8
  obtain ⟨n3, rfl⟩ := u8_of v9
  obtain ⟨n4, rfl⟩ := u8_of v10
  obtain ⟨n5, rfl⟩ := u8_of v11
  obtain ⟨s, rfl⟩ := u32_of v12
  obtain ⟨d, rfl⟩ := u32_of v13
  obtain ⟨t0, rfl⟩ := u8_of v14
  obtain ⟨t1, rfl⟩ := u8_of v15
  obtain ⟨t2, rfl⟩ := u8_of v16
  obtain ⟨t3, rfl⟩ := u8_of v17
  obtain ⟨t4, rfl⟩ := u8_of v18
  obtain ⟨t5, rfl⟩ := u8_of v19
  obtain ⟨z8, e0⟩ : ∃ a : UInt8, (a.toNat : Int) = 0 := ⟨0, rfl⟩
  obtain ⟨o1, e1⟩ : ∃ a : UInt16, (a.toNat : Int) = 1 := ⟨1, rfl⟩
  obtain ⟨o2, e2⟩ : ∃ a : UInt16, (a.toNat : Int) = 2 := ⟨2, rfl⟩
  have HK := fun W => Lib.hid (ask_any m0 m1 m2 m3 m4 m5 s d W)
  have HA : ∀ W, Hid (Calls Try.prog 31 #[.agg #[.int .u16 1, .int .u8 (m0.toNat : Int), .int .u8 (m1.toNat : Int), .int .u8 (m2.toNat : Int), .int .u8 (m3.toNat : Int), .int .u8 (m4.toNat : Int), .int .u8 (m5.toNat : Int), .int .u32 (s.toNat : Int), .int .u8 0, .int .u8 0, .int .u8 0, .int .u8 0, .int .u8 0, .int .u8 0, .int .u32 (d.toNat : Int)], .agg #[.int .u8 (n0.toNat : Int), .int .u8 (n1.toNat : Int), .int .u8 (n2.toNat : Int), .int .u8 (n3.toNat : Int), .int .u8 (n4.toNat : Int), .int .u8 (n5.toNat : Int)]] W fun e w' => e = .returned (.agg #[.int .u16 2, .int .u8 (n0.toNat : Int), .int .u8 (n1.toNat : Int), .int .u8 (n2.toNat : Int), .int .u8 (n3.toNat : Int), .int .u8 (n4.toNat : Int), .int .u8 (n5.toNat : Int), .int .u32 (d.toNat : Int), .int .u8 (m0.toNat : Int), .int .u8 (m1.toNat : Int), .int .u8 (m2.toNat : Int), .int .u8 (m3.toNat : Int), .int .u8 (m4.toNat : Int), .int .u8 (m5.toNat : Int), .int .u32 (s.toNat : Int)]) ∧ Below W.heap.size W w') := by
    intro W
    have h := answer_any o1 m0 m1 m2 m3 m4 m5 s z8 z8 z8 z8 z8 z8 d n0 n1 n2 n3 n4 n5 W
    simp only [e0, e1] at h
    exact h
  have HFR : ∀ W, Hid (Calls Try.prog 32 #[.agg #[.int .u16 2, .int .u8 (n0.toNat : Int), .int .u8 (n1.toNat : Int), .int .u8 (n2.toNat : Int), .int .u8 (n3.toNat : Int), .int .u8 (n4.toNat : Int), .int .u8 (n5.toNat : Int), .int .u32 (d.toNat : Int), .int .u8 (m0.toNat : Int), .int .u8 (m1.toNat : Int), .int .u8 (m2.toNat : Int), .int .u8 (m3.toNat : Int), .int .u8 (m4.toNat : Int), .int .u8 (m5.toNat : Int), .int .u32 (s.toNat : Int)], .agg #[.int .u8 (t0.toNat : Int), .int .u8 (t1.toNat : Int), .int .u8 (t2.toNat : Int), .int .u8 (t3.toNat : Int), .int .u8 (t4.toNat : Int), .int .u8 (t5.toNat : Int)]] W fun e w' => ∃ L5 A5 c5, e = .returned (.agg #[.int .u8 (t0.toNat : Int), .int .u8 (t1.toNat : Int), .int .u8 (t2.toNat : Int), .int .u8 (t3.toNat : Int), .int .u8 (t4.toNat : Int), .int .u8 (t5.toNat : Int), .int .u8 (n0.toNat : Int), .int .u8 (n1.toNat : Int), .int .u8 (n2.toNat : Int), .int .u8 (n3.toNat : Int), .int .u8 (n4.toNat : Int), .int .u8 (n5.toNat : Int), .int .u16 2054, .slice A5 L5.length c5]) ∧ Hid (L5 = arpB o2 n0 n1 n2 n3 n4 n5 d m0 m1 m2 m3 m4 m5 s) ∧ Rd bv w' w'.heap.size A5 c5 L5 ∧ Below W.heap.size W w') := by
    intro W
    have h := aframe_any o2 n0 n1 n2 n3 n4 n5 d m0 m1 m2 m3 m4 m5 s t0 t1 t2 t3 t4 t5 W
    simp only [e2] at h
    refine h.mono ?_
    rintro e w' ⟨L, A, c, h1, h2, h3, h4⟩
    exact ⟨L, A, c, h1, h2, h3, h4⟩
  have HRP : ∀ W, Hid (Calls Try.prog 27 #[.agg #[.int .u16 2, .int .u8 (n0.toNat : Int), .int .u8 (n1.toNat : Int), .int .u8 (n2.toNat : Int), .int .u8 (n3.toNat : Int), .int .u8 (n4.toNat : Int), .int .u8 (n5.toNat : Int), .int .u32 (d.toNat : Int), .int .u8 (m0.toNat : Int), .int .u8 (m1.toNat : Int), .int .u8 (m2.toNat : Int), .int .u8 (m3.toNat : Int), .int .u8 (m4.toNat : Int), .int .u8 (m5.toNat : Int), .int .u32 (s.toNat : Int)]] W fun e w' => ∃ L A c, e = .returned (.slice A L.length c) ∧ Hid (L = arpB o2 n0 n1 n2 n3 n4 n5 d m0 m1 m2 m3 m4 m5 s) ∧ Rd bv w' w'.heap.size A c L ∧ Below W.heap.size W w') := by
    intro W
    have h := rput_arp o2 n0 n1 n2 n3 n4 n5 d m0 m1 m2 m3 m4 m5 s W
    simp only [e2] at h
    exact h
  clear e0 e1 e2 v0 v1 v2 v3 v4 v5 v6 v7 v8 v9 v10 v11 v12 v13 v14 v15 v16 v17 v18 v19
  have hB := bnextA (bnextA (bnextA (Below.refl w.heap.size w) (.cells #[.int .u8 (m0.toNat : Int), .int .u8 (m1.toNat : Int), .int .u8 (m2.toNat : Int), .int .u8 (m3.toNat : Int), .int .u8 (m4.toNat : Int), .int .u8 (m5.toNat : Int)] 45)) (.cells #[.int .u8 (n0.toNat : Int), .int .u8 (n1.toNat : Int), .int .u8 (n2.toNat : Int), .int .u8 (n3.toNat : Int), .int .u8 (n4.toNat : Int), .int .u8 (n5.toNat : Int)] 45)) (.cells #[.int .u8 (t0.toNat : Int), .int .u8 (t1.toNat : Int), .int .u8 (t2.toNat : Int), .int .u8 (t3.toNat : Int), .int .u8 (t4.toNat : Int), .int .u8 (t5.toNat : Int)] 45)
  have K5 : Blk (((w.alloc (.cells #[.int .u8 (m0.toNat : Int), .int .u8 (m1.toNat : Int), .int .u8 (m2.toNat : Int), .int .u8 (m3.toNat : Int), .int .u8 (m4.toNat : Int), .int .u8 (m5.toNat : Int)] 45)).alloc (.cells #[.int .u8 (n0.toNat : Int), .int .u8 (n1.toNat : Int), .int .u8 (n2.toNat : Int), .int .u8 (n3.toNat : Int), .int .u8 (n4.toNat : Int), .int .u8 (n5.toNat : Int)] 45)).alloc (.cells #[.int .u8 (t0.toNat : Int), .int .u8 (t1.toNat : Int), .int .u8 (t2.toNat : Int), .int .u8 (t3.toNat : Int), .int .u8 (t4.toNat : Int), .int .u8 (t5.toNat : Int)] 45)) w.heap.size [.int .u8 (m0.toNat : Int), .int .u8 (m1.toNat : Int), .int .u8 (m2.toNat : Int), .int .u8 (m3.toNat : Int), .int .u8 (m4.toNat : Int), .int .u8 (m5.toNat : Int)] 45 := ((Blk.new w #[.int .u8 (m0.toNat : Int), .int .u8 (m1.toNat : Int), .int .u8 (m2.toNat : Int), .int .u8 (m3.toNat : Int), .int .u8 (m4.toNat : Int), .int .u8 (m5.toNat : Int)] 45).alloc _).alloc _
  have K6 : Blk (((w.alloc (.cells #[.int .u8 (m0.toNat : Int), .int .u8 (m1.toNat : Int), .int .u8 (m2.toNat : Int), .int .u8 (m3.toNat : Int), .int .u8 (m4.toNat : Int), .int .u8 (m5.toNat : Int)] 45)).alloc (.cells #[.int .u8 (n0.toNat : Int), .int .u8 (n1.toNat : Int), .int .u8 (n2.toNat : Int), .int .u8 (n3.toNat : Int), .int .u8 (n4.toNat : Int), .int .u8 (n5.toNat : Int)] 45)).alloc (.cells #[.int .u8 (t0.toNat : Int), .int .u8 (t1.toNat : Int), .int .u8 (t2.toNat : Int), .int .u8 (t3.toNat : Int), .int .u8 (t4.toNat : Int), .int .u8 (t5.toNat : Int)] 45)) (w.heap.size + 1) [.int .u8 (n0.toNat : Int), .int .u8 (n1.toNat : Int), .int .u8 (n2.toNat : Int), .int .u8 (n3.toNat : Int), .int .u8 (n4.toNat : Int), .int .u8 (n5.toNat : Int)] 45 := by
    have := (Blk.new (w.alloc (.cells #[.int .u8 (m0.toNat : Int), .int .u8 (m1.toNat : Int), .int .u8 (m2.toNat : Int), .int .u8 (m3.toNat : Int), .int .u8 (m4.toNat : Int), .int .u8 (m5.toNat : Int)] 45)) #[.int .u8 (n0.toNat : Int), .int .u8 (n1.toNat : Int), .int .u8 (n2.toNat : Int), .int .u8 (n3.toNat : Int), .int .u8 (n4.toNat : Int), .int .u8 (n5.toNat : Int)] 45).alloc (.cells #[.int .u8 (t0.toNat : Int), .int .u8 (t1.toNat : Int), .int .u8 (t2.toNat : Int), .int .u8 (t3.toNat : Int), .int .u8 (t4.toNat : Int), .int .u8 (t5.toNat : Int)] 45)
    simpa using this
  have K9 : Blk (((w.alloc (.cells #[.int .u8 (m0.toNat : Int), .int .u8 (m1.toNat : Int), .int .u8 (m2.toNat : Int), .int .u8 (m3.toNat : Int), .int .u8 (m4.toNat : Int), .int .u8 (m5.toNat : Int)] 45)).alloc (.cells #[.int .u8 (n0.toNat : Int), .int .u8 (n1.toNat : Int), .int .u8 (n2.toNat : Int), .int .u8 (n3.toNat : Int), .int .u8 (n4.toNat : Int), .int .u8 (n5.toNat : Int)] 45)).alloc (.cells #[.int .u8 (t0.toNat : Int), .int .u8 (t1.toNat : Int), .int .u8 (t2.toNat : Int), .int .u8 (t3.toNat : Int), .int .u8 (t4.toNat : Int), .int .u8 (t5.toNat : Int)] 45)) (w.heap.size + 1 + 1) [.int .u8 (t0.toNat : Int), .int .u8 (t1.toNat : Int), .int .u8 (t2.toNat : Int), .int .u8 (t3.toNat : Int), .int .u8 (t4.toNat : Int), .int .u8 (t5.toNat : Int)] 45 := by
    have := Blk.new ((w.alloc (.cells #[.int .u8 (m0.toNat : Int), .int .u8 (m1.toNat : Int), .int .u8 (m2.toNat : Int), .int .u8 (m3.toNat : Int), .int .u8 (m4.toNat : Int), .int .u8 (m5.toNat : Int)] 45)).alloc (.cells #[.int .u8 (n0.toNat : Int), .int .u8 (n1.toNat : Int), .int .u8 (n2.toNat : Int), .int .u8 (n3.toNat : Int), .int .u8 (n4.toNat : Int), .int .u8 (n5.toNat : Int)] 45)) #[.int .u8 (t0.toNat : Int), .int .u8 (t1.toNat : Int), .int .u8 (t2.toNat : Int), .int .u8 (t3.toNat : Int), .int .u8 (t4.toNat : Int), .int .u8 (t5.toNat : Int)] 45
    simpa using this
  obtain ⟨p0, p1, p2, p3, p4, p5, -⟩ := K5.get6
  go_enter Try.func7, Try.ntmps7
  go_wp2_with fail
  clear p0 p1 p2 p3 p4 p5
  generalize ((w.alloc (.cells #[.int .u8 (m0.toNat : Int), .int .u8 (m1.toNat : Int), .int .u8 (m2.toNat : Int), .int .u8 (m3.toNat : Int), .int .u8 (m4.toNat : Int), .int .u8 (m5.toNat : Int)] 45)).alloc (.cells #[.int .u8 (n0.toNat : Int), .int .u8 (n1.toNat : Int), .int .u8 (n2.toNat : Int), .int .u8 (n3.toNat : Int), .int .u8 (n4.toNat : Int), .int .u8 (n5.toNat : Int)] 45)).alloc (.cells #[.int .u8 (t0.toNat : Int), .int .u8 (t1.toNat : Int), .int .u8 (t2.toNat : Int), .int .u8 (t3.toNat : Int), .int .u8 (t4.toNat : Int), .int .u8 (t5.toNat : Int)] 45) = V0 at *
  generalize w.heap.size + 1 + 1 = g9 at *
  generalize w.heap.size + 1 = g6 at *
  refine (HK _).out.mono ?_
  rintro e w1 ⟨rfl, hb⟩
  replace hB := bnextA (bnext hB hb) (.cells #[.int .u16 1, .int .u8 (m0.toNat : Int), .int .u8 (m1.toNat : Int), .int .u8 (m2.toNat : Int), .int .u8 (m3.toNat : Int), .int .u8 (m4.toNat : Int), .int .u8 (m5.toNat : Int), .int .u32 (s.toNat : Int), .int .u8 0, .int .u8 0, .int .u8 0, .int .u8 0, .int .u8 0, .int .u8 0, .int .u32 (d.toNat : Int)] 47)
  replace K5 := (K5.next hb).alloc (.cells #[.int .u16 1, .int .u8 (m0.toNat : Int), .int .u8 (m1.toNat : Int), .int .u8 (m2.toNat : Int), .int .u8 (m3.toNat : Int), .int .u8 (m4.toNat : Int), .int .u8 (m5.toNat : Int), .int .u32 (s.toNat : Int), .int .u8 0, .int .u8 0, .int .u8 0, .int .u8 0, .int .u8 0, .int .u8 0, .int .u32 (d.toNat : Int)] 47)
  replace K6 := (K6.next hb).alloc (.cells #[.int .u16 1, .int .u8 (m0.toNat : Int), .int .u8 (m1.toNat : Int), .int .u8 (m2.toNat : Int), .int .u8 (m3.toNat : Int), .int .u8 (m4.toNat : Int), .int .u8 (m5.toNat : Int), .int .u32 (s.toNat : Int), .int .u8 0, .int .u8 0, .int .u8 0, .int .u8 0, .int .u8 0, .int .u8 0, .int .u32 (d.toNat : Int)] 47)
  replace K9 := (K9.next hb).alloc (.cells #[.int .u16 1, .int .u8 (m0.toNat : Int), .int .u8 (m1.toNat : Int), .int .u8 (m2.toNat : Int), .int .u8 (m3.toNat : Int), .int .u8 (m4.toNat : Int), .int .u8 (m5.toNat : Int), .int .u32 (s.toNat : Int), .int .u8 0, .int .u8 0, .int .u8 0, .int .u8 0, .int .u8 0, .int .u8 0, .int .u32 (d.toNat : Int)] 47)
  have K11 := Blk.new w1 #[.int .u16 1, .int .u8 (m0.toNat : Int), .int .u8 (m1.toNat : Int), .int .u8 (m2.toNat : Int), .int .u8 (m3.toNat : Int), .int .u8 (m4.toNat : Int), .int .u8 (m5.toNat : Int), .int .u32 (s.toNat : Int), .int .u8 0, .int .u8 0, .int .u8 0, .int .u8 0, .int .u8 0, .int .u8 0, .int .u32 (d.toNat : Int)] 47
  obtain ⟨p0, p1, p2, p3, p4, p5, p6, p7, p8, p9, p10, p11, p12, p13, p14, -⟩ := K11.get15
  obtain ⟨n0, n1, n2, n3, n4, n5, -⟩ := K6.get6
  clear hb HK
  go_wp2_with fail
  clear p0 p1 p2 p3 p4 p5 p6 p7 p8 p9 p10 p11 p12 p13 p14 n0 n1 n2 n3 n4 n5
  generalize w1.alloc (.cells #[.int .u16 1, .int .u8 (m0.toNat : Int), .int .u8 (m1.toNat : Int), .int .u8 (m2.toNat : Int), .int .u8 (m3.toNat : Int), .int .u8 (m4.toNat : Int), .int .u8 (m5.toNat : Int), .int .u32 (s.toNat : Int), .int .u8 0, .int .u8 0, .int .u8 0, .int .u8 0, .int .u8 0, .int .u8 0, .int .u32 (d.toNat : Int)] 47) = V1 at *
  generalize w1.heap.size = g11 at *
  refine (HA _).out.mono ?_
  rintro e w2 ⟨rfl, hb⟩
  replace hB := bnextA (bnext hB hb) (.cells #[.int .u16 2, .int .u8 (n0.toNat : Int), .int .u8 (n1.toNat : Int), .int .u8 (n2.toNat : Int), .int .u8 (n3.toNat : Int), .int .u8 (n4.toNat : Int), .int .u8 (n5.toNat : Int), .int .u32 (d.toNat : Int), .int .u8 (m0.toNat : Int), .int .u8 (m1.toNat : Int), .int .u8 (m2.toNat : Int), .int .u8 (m3.toNat : Int), .int .u8 (m4.toNat : Int), .int .u8 (m5.toNat : Int), .int .u32 (s.toNat : Int)] 47)
  replace K5 := (K5.next hb).alloc (.cells #[.int .u16 2, .int .u8 (n0.toNat : Int), .int .u8 (n1.toNat : Int), .int .u8 (n2.toNat : Int), .int .u8 (n3.toNat : Int), .int .u8 (n4.toNat : Int), .int .u8 (n5.toNat : Int), .int .u32 (d.toNat : Int), .int .u8 (m0.toNat : Int), .int .u8 (m1.toNat : Int), .int .u8 (m2.toNat : Int), .int .u8 (m3.toNat : Int), .int .u8 (m4.toNat : Int), .int .u8 (m5.toNat : Int), .int .u32 (s.toNat : Int)] 47)
  replace K6 := (K6.next hb).alloc (.cells #[.int .u16 2, .int .u8 (n0.toNat : Int), .int .u8 (n1.toNat : Int), .int .u8 (n2.toNat : Int), .int .u8 (n3.toNat : Int), .int .u8 (n4.toNat : Int), .int .u8 (n5.toNat : Int), .int .u32 (d.toNat : Int), .int .u8 (m0.toNat : Int), .int .u8 (m1.toNat : Int), .int .u8 (m2.toNat : Int), .int .u8 (m3.toNat : Int), .int .u8 (m4.toNat : Int), .int .u8 (m5.toNat : Int), .int .u32 (s.toNat : Int)] 47)
  replace K9 := (K9.next hb).alloc (.cells #[.int .u16 2, .int .u8 (n0.toNat : Int), .int .u8 (n1.toNat : Int), .int .u8 (n2.toNat : Int), .int .u8 (n3.toNat : Int), .int .u8 (n4.toNat : Int), .int .u8 (n5.toNat : Int), .int .u32 (d.toNat : Int), .int .u8 (m0.toNat : Int), .int .u8 (m1.toNat : Int), .int .u8 (m2.toNat : Int), .int .u8 (m3.toNat : Int), .int .u8 (m4.toNat : Int), .int .u8 (m5.toNat : Int), .int .u32 (s.toNat : Int)] 47)
  replace K11 := (K11.next hb).alloc (.cells #[.int .u16 2, .int .u8 (n0.toNat : Int), .int .u8 (n1.toNat : Int), .int .u8 (n2.toNat : Int), .int .u8 (n3.toNat : Int), .int .u8 (n4.toNat : Int), .int .u8 (n5.toNat : Int), .int .u32 (d.toNat : Int), .int .u8 (m0.toNat : Int), .int .u8 (m1.toNat : Int), .int .u8 (m2.toNat : Int), .int .u8 (m3.toNat : Int), .int .u8 (m4.toNat : Int), .int .u8 (m5.toNat : Int), .int .u32 (s.toNat : Int)] 47)
  have K12 := Blk.new w2 #[.int .u16 2, .int .u8 (n0.toNat : Int), .int .u8 (n1.toNat : Int), .int .u8 (n2.toNat : Int), .int .u8 (n3.toNat : Int), .int .u8 (n4.toNat : Int), .int .u8 (n5.toNat : Int), .int .u32 (d.toNat : Int), .int .u8 (m0.toNat : Int), .int .u8 (m1.toNat : Int), .int .u8 (m2.toNat : Int), .int .u8 (m3.toNat : Int), .int .u8 (m4.toNat : Int), .int .u8 (m5.toNat : Int), .int .u32 (s.toNat : Int)] 47
  obtain ⟨p0, p1, p2, p3, p4, p5, p6, p7, p8, p9, p10, p11, p12, p13, p14, -⟩ := K11.get15
  obtain ⟨q0, q1, q2, q3, q4, q5, q6, q7, q8, q9, q10, q11, q12, q13, q14, -⟩ := K12.get15
  obtain ⟨n0, n1, n2, n3, n4, n5, -⟩ := K6.get6
  obtain ⟨k0, k1, k2, k3, k4, k5, -⟩ := K5.get6
  obtain ⟨h0, h1, h2, h3, h4, h5, -⟩ := K9.get6
  clear hb HA
  go_wp2_with fail
  clear p0 p1 p2 p3 p4 p5 p6 p7 p8 p9 p10 p11 p12 p13 p14 q0 q1 q2 q3 q4 q5 q6 q7 q8 q9 q10 q11 q12 q13 q14 n0 n1 n2 n3 n4 n5 k0 k1 k2 k3 k4 k5 h0 h1 h2 h3 h4 h5 K5 K11
  generalize w2.alloc (.cells #[.int .u16 2, .int .u8 (n0.toNat : Int), .int .u8 (n1.toNat : Int), .int .u8 (n2.toNat : Int), .int .u8 (n3.toNat : Int), .int .u8 (n4.toNat : Int), .int .u8 (n5.toNat : Int), .int .u32 (d.toNat : Int), .int .u8 (m0.toNat : Int), .int .u8 (m1.toNat : Int), .int .u8 (m2.toNat : Int), .int .u8 (m3.toNat : Int), .int .u8 (m4.toNat : Int), .int .u8 (m5.toNat : Int), .int .u32 (s.toNat : Int)] 47) = V2 at *
  generalize w2.heap.size = g12 at *
  refine (HFR _).out.mono ?_
  rintro e w3 ⟨L5, A5, c5, rfl, HL5, r5, hb⟩
  replace hB := bnextA (bnext hB hb) (.cells #[.int .u8 (t0.toNat : Int), .int .u8 (t1.toNat : Int), .int .u8 (t2.toNat : Int), .int .u8 (t3.toNat : Int), .int .u8 (t4.toNat : Int), .int .u8 (t5.toNat : Int), .int .u8 (n0.toNat : Int), .int .u8 (n1.toNat : Int), .int .u8 (n2.toNat : Int), .int .u8 (n3.toNat : Int), .int .u8 (n4.toNat : Int), .int .u8 (n5.toNat : Int), .int .u16 2054, .slice A5 L5.length c5] 59)
  replace K6 := (K6.next hb).alloc (.cells #[.int .u8 (t0.toNat : Int), .int .u8 (t1.toNat : Int), .int .u8 (t2.toNat : Int), .int .u8 (t3.toNat : Int), .int .u8 (t4.toNat : Int), .int .u8 (t5.toNat : Int), .int .u8 (n0.toNat : Int), .int .u8 (n1.toNat : Int), .int .u8 (n2.toNat : Int), .int .u8 (n3.toNat : Int), .int .u8 (n4.toNat : Int), .int .u8 (n5.toNat : Int), .int .u16 2054, .slice A5 L5.length c5] 59)
  replace K9 := (K9.next hb).alloc (.cells #[.int .u8 (t0.toNat : Int), .int .u8 (t1.toNat : Int), .int .u8 (t2.toNat : Int), .int .u8 (t3.toNat : Int), .int .u8 (t4.toNat : Int), .int .u8 (t5.toNat : Int), .int .u8 (n0.toNat : Int), .int .u8 (n1.toNat : Int), .int .u8 (n2.toNat : Int), .int .u8 (n3.toNat : Int), .int .u8 (n4.toNat : Int), .int .u8 (n5.toNat : Int), .int .u16 2054, .slice A5 L5.length c5] 59)
  replace K12 := (K12.next hb).alloc (.cells #[.int .u8 (t0.toNat : Int), .int .u8 (t1.toNat : Int), .int .u8 (t2.toNat : Int), .int .u8 (t3.toNat : Int), .int .u8 (t4.toNat : Int), .int .u8 (t5.toNat : Int), .int .u8 (n0.toNat : Int), .int .u8 (n1.toNat : Int), .int .u8 (n2.toNat : Int), .int .u8 (n3.toNat : Int), .int .u8 (n4.toNat : Int), .int .u8 (n5.toNat : Int), .int .u16 2054, .slice A5 L5.length c5] 59)
  replace r5 := r5.nextA (.cells #[.int .u8 (t0.toNat : Int), .int .u8 (t1.toNat : Int), .int .u8 (t2.toNat : Int), .int .u8 (t3.toNat : Int), .int .u8 (t4.toNat : Int), .int .u8 (t5.toNat : Int), .int .u8 (n0.toNat : Int), .int .u8 (n1.toNat : Int), .int .u8 (n2.toNat : Int), .int .u8 (n3.toNat : Int), .int .u8 (n4.toNat : Int), .int .u8 (n5.toNat : Int), .int .u16 2054, .slice A5 L5.length c5] 59)
  have K13 := Blk.new w3 #[.int .u8 (t0.toNat : Int), .int .u8 (t1.toNat : Int), .int .u8 (t2.toNat : Int), .int .u8 (t3.toNat : Int), .int .u8 (t4.toNat : Int), .int .u8 (t5.toNat : Int), .int .u8 (n0.toNat : Int), .int .u8 (n1.toNat : Int), .int .u8 (n2.toNat : Int), .int .u8 (n3.toNat : Int), .int .u8 (n4.toNat : Int), .int .u8 (n5.toNat : Int), .int .u16 2054, .slice A5 L5.length c5] 59
  clear hb HFR
  go_wp2_with fail
  generalize w3.alloc (.cells #[.int .u8 (t0.toNat : Int), .int .u8 (t1.toNat : Int), .int .u8 (t2.toNat : Int), .int .u8 (t3.toNat : Int), .int .u8 (t4.toNat : Int), .int .u8 (t5.toNat : Int), .int .u8 (n0.toNat : Int), .int .u8 (n1.toNat : Int), .int .u8 (n2.toNat : Int), .int .u8 (n3.toNat : Int), .int .u8 (n4.toNat : Int), .int .u8 (n5.toNat : Int), .int .u16 2054, .slice A5 L5.length c5] 59) = V at *
  generalize w3.heap.size = g13 at *
  have HS : ∀ W, Below V.heap.size V W → (W.cell? ⟨g13, 0, none⟩ = some (.int .u8 (t0.toNat : Int)) ∧ W.cell? ⟨g13, 1, none⟩ = some (.int .u8 (t1.toNat : Int)) ∧ W.cell? ⟨g13, 2, none⟩ = some (.int .u8 (t2.toNat : Int)) ∧ W.cell? ⟨g13, 3, none⟩ = some (.int .u8 (t3.toNat : Int)) ∧ W.cell? ⟨g13, 4, none⟩ = some (.int .u8 (t4.toNat : Int)) ∧ W.cell? ⟨g13, 5, none⟩ = some (.int .u8 (t5.toNat : Int)) ∧ W.cell? ⟨g13, 6, none⟩ = some (.int .u8 (n0.toNat : Int)) ∧ W.cell? ⟨g13, 7, none⟩ = some (.int .u8 (n1.toNat : Int)) ∧ W.cell? ⟨g13, 8, none⟩ = some (.int .u8 (n2.toNat : Int)) ∧ W.cell? ⟨g13, 9, none⟩ = some (.int .u8 (n3.toNat : Int)) ∧ W.cell? ⟨g13, 10, none⟩ = some (.int .u8 (n4.toNat : Int)) ∧ W.cell? ⟨g13, 11, none⟩ = some (.int .u8 (n5.toNat : Int)) ∧ W.cell? ⟨g13, 12, none⟩ = some (.int .u16 2054) ∧ W.cell? ⟨g13, 13, none⟩ = some (.slice A5 L5.length c5) ∧ W.cell? ⟨g9, 0, none⟩ = some (.int .u8 (t0.toNat : Int)) ∧ W.cell? ⟨g9, 1, none⟩ = some (.int .u8 (t1.toNat : Int)) ∧ W.cell? ⟨g9, 2, none⟩ = some (.int .u8 (t2.toNat : Int)) ∧ W.cell? ⟨g9, 3, none⟩ = some (.int .u8 (t3.toNat : Int)) ∧ W.cell? ⟨g9, 4, none⟩ = some (.int .u8 (t4.toNat : Int)) ∧ W.cell? ⟨g9, 5, none⟩ = some (.int .u8 (t5.toNat : Int)) ∧ W.cell? ⟨g6, 0, none⟩ = some (.int .u8 (n0.toNat : Int)) ∧ W.cell? ⟨g6, 1, none⟩ = some (.int .u8 (n1.toNat : Int)) ∧ W.cell? ⟨g6, 2, none⟩ = some (.int .u8 (n2.toNat : Int)) ∧ W.cell? ⟨g6, 3, none⟩ = some (.int .u8 (n3.toNat : Int)) ∧ W.cell? ⟨g6, 4, none⟩ = some (.int .u8 (n4.toNat : Int)) ∧ W.cell? ⟨g6, 5, none⟩ = some (.int .u8 (n5.toNat : Int)) ∧ W.cell? ⟨g12, 0, none⟩ = some (.int .u16 2) ∧ W.cell? ⟨g12, 1, none⟩ = some (.int .u8 (n0.toNat : Int)) ∧ W.cell? ⟨g12, 2, none⟩ = some (.int .u8 (n1.toNat : Int)) ∧ W.cell? ⟨g12, 3, none⟩ = some (.int .u8 (n2.toNat : Int)) ∧ W.cell? ⟨g12, 4, none⟩ = some (.int .u8 (n3.toNat : Int)) ∧ W.cell? ⟨g12, 5, none⟩ = some (.int .u8 (n4.toNat : Int)) ∧ W.cell? ⟨g12, 6, none⟩ = some (.int .u8 (n5.toNat : Int)) ∧ W.cell? ⟨g12, 7, none⟩ = some (.int .u32 (d.toNat : Int)) ∧ W.cell? ⟨g12, 8, none⟩ = some (.int .u8 (m0.toNat : Int)) ∧ W.cell? ⟨g12, 9, none⟩ = some (.int .u8 (m1.toNat : Int)) ∧ W.cell? ⟨g12, 10, none⟩ = some (.int .u8 (m2.toNat : Int)) ∧ W.cell? ⟨g12, 11, none⟩ = some (.int .u8 (m3.toNat : Int)) ∧ W.cell? ⟨g12, 12, none⟩ = some (.int .u8 (m4.toNat : Int)) ∧ W.cell? ⟨g12, 13, none⟩ = some (.int .u8 (m5.toNat : Int)) ∧ W.cell? ⟨g12, 14, none⟩ = some (.int .u32 (s.toNat : Int))) := by
    intro W h
    obtain ⟨a0, a1, a2, a3, a4, a5, a6, a7, a8, a9, a10, a11, a12, a13, -⟩ := (K13.next h).get14
    obtain ⟨b0, b1, b2, b3, b4, b5, -⟩ := (K9.next h).get6
    obtain ⟨c0, c1, c2, c3, c4, c5, -⟩ := (K6.next h).get6
    obtain ⟨f0, f1, f2, f3, f4, f5, f6, f7, f8, f9, f10, f11, f12, f13, f14, -⟩ := (K12.next h).get15
    exact ⟨a0, a1, a2, a3, a4, a5, a6, a7, a8, a9, a10, a11, a12, a13, b0, b1, b2, b3, b4, b5, c0, c1, c2, c3, c4, c5, f0, f1, f2, f3, f4, f5, f6, f7, f8, f9, f10, f11, f12, f13, f14⟩
  clear K6 K9 K12 K13
  refine region_put (by kernel_rfl) (by kernel_rfl) (by kernel_rfl) 64 rfl (by kernel_rfl) V (fun i v W => match i with
      | 0 => v = .pointer (some ⟨g13, 0, none⟩)
      | 1 => v = .agg #[.int .u8 (t0.toNat : Int), .int .u8 (t1.toNat : Int), .int .u8 (t2.toNat : Int), .int .u8 (t3.toNat : Int), .int .u8 (t4.toNat : Int), .int .u8 (t5.toNat : Int)]
      | 2 => v = .agg #[.int .u8 (t0.toNat : Int), .int .u8 (t1.toNat : Int), .int .u8 (t2.toNat : Int), .int .u8 (t3.toNat : Int), .int .u8 (t4.toNat : Int), .int .u8 (t5.toNat : Int)]
      | 3 => v = .bool true
      | 4 => v = .bool true
      | 5 => v = .pointer (some ⟨g13, 6, none⟩)
      | 6 => v = .agg #[.int .u8 (n0.toNat : Int), .int .u8 (n1.toNat : Int), .int .u8 (n2.toNat : Int), .int .u8 (n3.toNat : Int), .int .u8 (n4.toNat : Int), .int .u8 (n5.toNat : Int)]
      | 7 => v = .agg #[.int .u8 (n0.toNat : Int), .int .u8 (n1.toNat : Int), .int .u8 (n2.toNat : Int), .int .u8 (n3.toNat : Int), .int .u8 (n4.toNat : Int), .int .u8 (n5.toNat : Int)]
      | 8 => v = .bool true
      | 9 => v = .bool true
      | 10 => v = .bool true
      | 11 => v = .pointer (some ⟨g13, 12, none⟩)
      | 12 => v = .int .u16 2054
      | 13 => v = .bool true
      | 14 => v = .bool true
      | 15 => v = .bool true
      | 16 => v = .pointer (some ⟨g13, 13, none⟩)
      | 17 => ∃ L A c, v = .slice A L.length c ∧ Hid (L = arpB o2 n0 n1 n2 n3 n4 n5 d m0 m1 m2 m3 m4 m5 s) ∧ Rd bv W W.heap.size A c L
      | 18 => v = .agg #[.int .u16 2, .int .u8 (n0.toNat : Int), .int .u8 (n1.toNat : Int), .int .u8 (n2.toNat : Int), .int .u8 (n3.toNat : Int), .int .u8 (n4.toNat : Int), .int .u8 (n5.toNat : Int), .int .u32 (d.toNat : Int), .int .u8 (m0.toNat : Int), .int .u8 (m1.toNat : Int), .int .u8 (m2.toNat : Int), .int .u8 (m3.toNat : Int), .int .u8 (m4.toNat : Int), .int .u8 (m5.toNat : Int), .int .u32 (s.toNat : Int)]
      | 19 => ∃ L A c, v = .slice A L.length c ∧ Hid (L = arpB o2 n0 n1 n2 n3 n4 n5 d m0 m1 m2 m3 m4 m5 s) ∧ Rd bv W W.heap.size A c L
      | 20 => v = .bool true
      | 21 => v = .bool true
      | 22 => v = .bool true
      | 23 => v = .bool true
      | 24 => v = .bool true
      | 25 => v = .bool true
      | _ => True) (Below.refl _ _) ?_ ?_ ?_
  · intro i v W W' h hb
    match i, h with
    | 0, h => exact h
    | 1, h => exact h
    | 2, h => exact h
    | 3, h => exact h
    | 4, h => exact h
    | 5, h => exact h
    | 6, h => exact h
    | 7, h => exact h
    | 8, h => exact h
    | 9, h => exact h
    | 10, h => exact h
    | 11, h => exact h
    | 12, h => exact h
    | 13, h => exact h
    | 14, h => exact h
    | 15, h => exact h
    | 16, h => exact h
    | 17, h => obtain ⟨L, A, c, h1, h2, h3⟩ := h; exact ⟨L, A, c, h1, h2, h3.next hb⟩
    | 18, h => exact h
    | 19, h => obtain ⟨L, A, c, h1, h2, h3⟩ := h; exact ⟨L, A, c, h1, h2, h3.next hb⟩
    | 20, h => exact h
    | 21, h => exact h
    | 22, h => exact h
    | 23, h => exact h
    | 24, h => exact h
    | 25, h => exact h
    | _ + 26, _ => trivial
  · intro i o uu W hoo hVW hd
    rcases i with _|_|_|_|_|_|_|_|_|_|_|_|_|_|_|_|_|_|_|_|_|_|_|_|_|_|i
    · obtain rfl := Option.some.inj hoo
      refine .inl ⟨wanted_none rfl, ?_⟩
      generalize hev : Act.eval _ = ev
      have ec : ∀ c, ev (.const c) = c := fun c => by rw [← hev]; rfl
      have e13 : ev (.tmp 13) = .pointer (some ⟨g13, 0, none⟩) := by rw [← hev]; exact eval_old (by kernel_rfl) 64 rfl (by decide) rfl
      clear hev hd
      exact .inl ⟨_, W, by go_simp, rfl, Below.refl _ _⟩
    · obtain rfl := Option.some.inj hoo
      have q0 : uu 0 = .pointer (some ⟨g13, 0, none⟩) := hd 0 (by kernel_rfl)
      refine .inl ⟨wanted_none rfl, ?_⟩
      generalize hev : Act.eval _ = ev
      have ec : ∀ c, ev (.const c) = c := fun c => by rw [← hev]; rfl
      have e39 : ev (.tmp 39) = .pointer (some ⟨g13, 0, none⟩) := by rw [← hev]; exact (eval_put (by kernel_rfl) 64 rfl (by decide)).trans q0
      clear hev hd q0
      obtain ⟨cc0, cc1, cc2, cc3, cc4, cc5, cc6, cc7, cc8, cc9, cc10, cc11, cc12, cc13, cc14, cc15, cc16, cc17, cc18, cc19, cc20, cc21, cc22, cc23, cc24, cc25, cc26, cc27, cc28, cc29, cc30, cc31, cc32, cc33, cc34, cc35, cc36, cc37, cc38, cc39, cc40⟩ := HS W hVW
      exact .inl ⟨_, W, by go_simp, rfl, Below.refl _ _⟩
    · obtain rfl := Option.some.inj hoo
      refine .inl ⟨wanted_none rfl, ?_⟩
      generalize hev : Act.eval _ = ev
      have ec : ∀ c, ev (.const c) = c := fun c => by rw [← hev]; rfl
      have e9 : ev (.tmp 9) = .pointer (some ⟨g9, 0, none⟩) := by rw [← hev]; exact eval_old (by kernel_rfl) 64 rfl (by decide) rfl
      clear hev hd
      obtain ⟨cc0, cc1, cc2, cc3, cc4, cc5, cc6, cc7, cc8, cc9, cc10, cc11, cc12, cc13, cc14, cc15, cc16, cc17, cc18, cc19, cc20, cc21, cc22, cc23, cc24, cc25, cc26, cc27, cc28, cc29, cc30, cc31, cc32, cc33, cc34, cc35, cc36, cc37, cc38, cc39, cc40⟩ := HS W hVW
      exact .inl ⟨_, W, by go_simp, rfl, Below.refl _ _⟩
    · obtain rfl := Option.some.inj hoo
      have q1 : uu 1 = .agg #[.int .u8 (t0.toNat : Int), .int .u8 (t1.toNat : Int), .int .u8 (t2.toNat : Int), .int .u8 (t3.toNat : Int), .int .u8 (t4.toNat : Int), .int .u8 (t5.toNat : Int)] := hd 1 (by kernel_rfl)
      have q2 : uu 2 = .agg #[.int .u8 (t0.toNat : Int), .int .u8 (t1.toNat : Int), .int .u8 (t2.toNat : Int), .int .u8 (t3.toNat : Int), .int .u8 (t4.toNat : Int), .int .u8 (t5.toNat : Int)] := hd 2 (by kernel_rfl)
      refine .inl ⟨wanted_none rfl, ?_⟩
      generalize hev : Act.eval _ = ev
      have ec : ∀ c, ev (.const c) = c := fun c => by rw [← hev]; rfl
      have e40 : ev (.tmp 40) = .agg #[.int .u8 (t0.toNat : Int), .int .u8 (t1.toNat : Int), .int .u8 (t2.toNat : Int), .int .u8 (t3.toNat : Int), .int .u8 (t4.toNat : Int), .int .u8 (t5.toNat : Int)] := by rw [← hev]; exact (eval_put (by kernel_rfl) 64 rfl (by decide)).trans q1
      have e41 : ev (.tmp 41) = .agg #[.int .u8 (t0.toNat : Int), .int .u8 (t1.toNat : Int), .int .u8 (t2.toNat : Int), .int .u8 (t3.toNat : Int), .int .u8 (t4.toNat : Int), .int .u8 (t5.toNat : Int)] := by rw [← hev]; exact (eval_put (by kernel_rfl) 64 rfl (by decide)).trans q2
      clear hev hd q1 q2
      exact .inl ⟨_, W, by go_simp, rfl, Below.refl _ _⟩
    · obtain rfl := Option.some.inj hoo
      have q3 : uu 3 = .bool true := hd 3 (by kernel_rfl)
      refine .inl ⟨wanted_none rfl, ?_⟩
      generalize hev : Act.eval _ = ev
      have ec : ∀ c, ev (.const c) = c := fun c => by rw [← hev]; rfl
      have e42 : ev (.tmp 42) = .bool true := by rw [← hev]; exact (eval_put (by kernel_rfl) 64 rfl (by decide)).trans q3
      clear hev hd q3
      exact .inl ⟨_, W, by go_simp, rfl, Below.refl _ _⟩
    · obtain rfl := Option.some.inj hoo
      have q4 : uu 4 = .bool true := hd 4 (by kernel_rfl)
      refine .inl ⟨wanted_yes rfl (yielded_put (k := 43) (by kernel_rfl) (by kernel_rfl) 64 rfl (by decide) q4), ?_⟩
      generalize hev : Act.eval _ = ev
      have ec : ∀ c, ev (.const c) = c := fun c => by rw [← hev]; rfl
      have e13 : ev (.tmp 13) = .pointer (some ⟨g13, 0, none⟩) := by rw [← hev]; exact eval_old (by kernel_rfl) 64 rfl (by decide) rfl
      clear hev hd q4
      exact .inl ⟨_, W, by go_simp, rfl, Below.refl _ _⟩
    · obtain rfl := Option.some.inj hoo
      have q5 : uu 5 = .pointer (some ⟨g13, 6, none⟩) := hd 5 (by kernel_rfl)
      have q4 : uu 4 = .bool true := hd 4 (by kernel_rfl)
      refine .inl ⟨wanted_yes rfl (yielded_put (k := 43) (by kernel_rfl) (by kernel_rfl) 64 rfl (by decide) q4), ?_⟩
      generalize hev : Act.eval _ = ev
      have ec : ∀ c, ev (.const c) = c := fun c => by rw [← hev]; rfl
      have e44 : ev (.tmp 44) = .pointer (some ⟨g13, 6, none⟩) := by rw [← hev]; exact (eval_put (by kernel_rfl) 64 rfl (by decide)).trans q5
      clear hev hd q5 q4
      obtain ⟨cc0, cc1, cc2, cc3, cc4, cc5, cc6, cc7, cc8, cc9, cc10, cc11, cc12, cc13, cc14, cc15, cc16, cc17, cc18, cc19, cc20, cc21, cc22, cc23, cc24, cc25, cc26, cc27, cc28, cc29, cc30, cc31, cc32, cc33, cc34, cc35, cc36, cc37, cc38, cc39, cc40⟩ := HS W hVW
      exact .inl ⟨_, W, by go_simp, rfl, Below.refl _ _⟩
    · obtain rfl := Option.some.inj hoo
      have q4 : uu 4 = .bool true := hd 4 (by kernel_rfl)
      refine .inl ⟨wanted_yes rfl (yielded_put (k := 43) (by kernel_rfl) (by kernel_rfl) 64 rfl (by decide) q4), ?_⟩
      generalize hev : Act.eval _ = ev
      have ec : ∀ c, ev (.const c) = c := fun c => by rw [← hev]; rfl
      have e6 : ev (.tmp 6) = .pointer (some ⟨g6, 0, none⟩) := by rw [← hev]; exact eval_old (by kernel_rfl) 64 rfl (by decide) rfl
      clear hev hd q4
      obtain ⟨cc0, cc1, cc2, cc3, cc4, cc5, cc6, cc7, cc8, cc9, cc10, cc11, cc12, cc13, cc14, cc15, cc16, cc17, cc18, cc19, cc20, cc21, cc22, cc23, cc24, cc25, cc26, cc27, cc28, cc29, cc30, cc31, cc32, cc33, cc34, cc35, cc36, cc37, cc38, cc39, cc40⟩ := HS W hVW
      exact .inl ⟨_, W, by go_simp, rfl, Below.refl _ _⟩
    · obtain rfl := Option.some.inj hoo
      have q6 : uu 6 = .agg #[.int .u8 (n0.toNat : Int), .int .u8 (n1.toNat : Int), .int .u8 (n2.toNat : Int), .int .u8 (n3.toNat : Int), .int .u8 (n4.toNat : Int), .int .u8 (n5.toNat : Int)] := hd 6 (by kernel_rfl)
      have q7 : uu 7 = .agg #[.int .u8 (n0.toNat : Int), .int .u8 (n1.toNat : Int), .int .u8 (n2.toNat : Int), .int .u8 (n3.toNat : Int), .int .u8 (n4.toNat : Int), .int .u8 (n5.toNat : Int)] := hd 7 (by kernel_rfl)
      have q4 : uu 4 = .bool true := hd 4 (by kernel_rfl)
      refine .inl ⟨wanted_yes rfl (yielded_put (k := 43) (by kernel_rfl) (by kernel_rfl) 64 rfl (by decide) q4), ?_⟩
      generalize hev : Act.eval _ = ev
      have ec : ∀ c, ev (.const c) = c := fun c => by rw [← hev]; rfl
      have e45 : ev (.tmp 45) = .agg #[.int .u8 (n0.toNat : Int), .int .u8 (n1.toNat : Int), .int .u8 (n2.toNat : Int), .int .u8 (n3.toNat : Int), .int .u8 (n4.toNat : Int), .int .u8 (n5.toNat : Int)] := by rw [← hev]; exact (eval_put (by kernel_rfl) 64 rfl (by decide)).trans q6
      have e46 : ev (.tmp 46) = .agg #[.int .u8 (n0.toNat : Int), .int .u8 (n1.toNat : Int), .int .u8 (n2.toNat : Int), .int .u8 (n3.toNat : Int), .int .u8 (n4.toNat : Int), .int .u8 (n5.toNat : Int)] := by rw [← hev]; exact (eval_put (by kernel_rfl) 64 rfl (by decide)).trans q7
      clear hev hd q6 q7 q4
      exact .inl ⟨_, W, by go_simp, rfl, Below.refl _ _⟩
    · obtain rfl := Option.some.inj hoo
      have q4 : uu 4 = .bool true := hd 4 (by kernel_rfl)
      have q8 : uu 8 = .bool true := hd 8 (by kernel_rfl)
      refine .inl ⟨wanted_none rfl, ?_⟩
      generalize hev : Act.eval _ = ev
      have ec : ∀ c, ev (.const c) = c := fun c => by rw [← hev]; rfl
      have e43 : ev (.tmp 43) = .bool true := by rw [← hev]; exact (eval_put (by kernel_rfl) 64 rfl (by decide)).trans q4
      have e47 : ev (.tmp 47) = .bool true := by rw [← hev]; exact (eval_put (by kernel_rfl) 64 rfl (by decide)).trans q8
      clear hev hd q4 q8
      exact .inl ⟨_, W, by go_simp, rfl, Below.refl _ _⟩
    · obtain rfl := Option.some.inj hoo
      have q9 : uu 9 = .bool true := hd 9 (by kernel_rfl)
      refine .inl ⟨wanted_none rfl, ?_⟩
      generalize hev : Act.eval _ = ev
      have ec : ∀ c, ev (.const c) = c := fun c => by rw [← hev]; rfl
      have e48 : ev (.tmp 48) = .bool true := by rw [← hev]; exact (eval_put (by kernel_rfl) 64 rfl (by decide)).trans q9
      clear hev hd q9
      exact .inl ⟨_, W, by go_simp, rfl, Below.refl _ _⟩
    · obtain rfl := Option.some.inj hoo
      have q10 : uu 10 = .bool true := hd 10 (by kernel_rfl)
      refine .inl ⟨wanted_yes rfl (yielded_put (k := 49) (by kernel_rfl) (by kernel_rfl) 64 rfl (by decide) q10), ?_⟩
      generalize hev : Act.eval _ = ev
      have ec : ∀ c, ev (.const c) = c := fun c => by rw [← hev]; rfl
      have e13 : ev (.tmp 13) = .pointer (some ⟨g13, 0, none⟩) := by rw [← hev]; exact eval_old (by kernel_rfl) 64 rfl (by decide) rfl
      clear hev hd q10
      exact .inl ⟨_, W, by go_simp, rfl, Below.refl _ _⟩
    · obtain rfl := Option.some.inj hoo
      have q11 : uu 11 = .pointer (some ⟨g13, 12, none⟩) := hd 11 (by kernel_rfl)
      have q10 : uu 10 = .bool true := hd 10 (by kernel_rfl)
      refine .inl ⟨wanted_yes rfl (yielded_put (k := 49) (by kernel_rfl) (by kernel_rfl) 64 rfl (by decide) q10), ?_⟩
      generalize hev : Act.eval _ = ev
      have ec : ∀ c, ev (.const c) = c := fun c => by rw [← hev]; rfl
      have e50 : ev (.tmp 50) = .pointer (some ⟨g13, 12, none⟩) := by rw [← hev]; exact (eval_put (by kernel_rfl) 64 rfl (by decide)).trans q11
      clear hev hd q11 q10
      obtain ⟨cc0, cc1, cc2, cc3, cc4, cc5, cc6, cc7, cc8, cc9, cc10, cc11, cc12, cc13, cc14, cc15, cc16, cc17, cc18, cc19, cc20, cc21, cc22, cc23, cc24, cc25, cc26, cc27, cc28, cc29, cc30, cc31, cc32, cc33, cc34, cc35, cc36, cc37, cc38, cc39, cc40⟩ := HS W hVW
      exact .inl ⟨_, W, by go_simp, rfl, Below.refl _ _⟩
    · obtain rfl := Option.some.inj hoo
      have q12 : uu 12 = .int .u16 2054 := hd 12 (by kernel_rfl)
      have q10 : uu 10 = .bool true := hd 10 (by kernel_rfl)
      refine .inl ⟨wanted_yes rfl (yielded_put (k := 49) (by kernel_rfl) (by kernel_rfl) 64 rfl (by decide) q10), ?_⟩
      generalize hev : Act.eval _ = ev
      have ec : ∀ c, ev (.const c) = c := fun c => by rw [← hev]; rfl
      have e51 : ev (.tmp 51) = .int .u16 2054 := by rw [← hev]; exact (eval_put (by kernel_rfl) 64 rfl (by decide)).trans q12
      clear hev hd q12 q10
      exact .inl ⟨_, W, by go_simp, rfl, Below.refl _ _⟩
    · obtain rfl := Option.some.inj hoo
      have q10 : uu 10 = .bool true := hd 10 (by kernel_rfl)
      have q13 : uu 13 = .bool true := hd 13 (by kernel_rfl)
      refine .inl ⟨wanted_none rfl, ?_⟩
      generalize hev : Act.eval _ = ev
      have ec : ∀ c, ev (.const c) = c := fun c => by rw [← hev]; rfl
      have e49 : ev (.tmp 49) = .bool true := by rw [← hev]; exact (eval_put (by kernel_rfl) 64 rfl (by decide)).trans q10
      have e52 : ev (.tmp 52) = .bool true := by rw [← hev]; exact (eval_put (by kernel_rfl) 64 rfl (by decide)).trans q13
      clear hev hd q10 q13
      exact .inl ⟨_, W, by go_simp, rfl, Below.refl _ _⟩
    · obtain rfl := Option.some.inj hoo
      have q14 : uu 14 = .bool true := hd 14 (by kernel_rfl)
      refine .inl ⟨wanted_none rfl, ?_⟩
      generalize hev : Act.eval _ = ev
      have ec : ∀ c, ev (.const c) = c := fun c => by rw [← hev]; rfl
      have e53 : ev (.tmp 53) = .bool true := by rw [← hev]; exact (eval_put (by kernel_rfl) 64 rfl (by decide)).trans q14
      clear hev hd q14
      exact .inl ⟨_, W, by go_simp, rfl, Below.refl _ _⟩
    · obtain rfl := Option.some.inj hoo
      have q15 : uu 15 = .bool true := hd 15 (by kernel_rfl)
      refine .inl ⟨wanted_yes rfl (yielded_put (k := 54) (by kernel_rfl) (by kernel_rfl) 64 rfl (by decide) q15), ?_⟩
      generalize hev : Act.eval _ = ev
      have ec : ∀ c, ev (.const c) = c := fun c => by rw [← hev]; rfl
      have e13 : ev (.tmp 13) = .pointer (some ⟨g13, 0, none⟩) := by rw [← hev]; exact eval_old (by kernel_rfl) 64 rfl (by decide) rfl
      clear hev hd q15
      exact .inl ⟨_, W, by go_simp, rfl, Below.refl _ _⟩
    · obtain rfl := Option.some.inj hoo
      have q16 : uu 16 = .pointer (some ⟨g13, 13, none⟩) := hd 16 (by kernel_rfl)
      have q15 : uu 15 = .bool true := hd 15 (by kernel_rfl)
      refine .inl ⟨wanted_yes rfl (yielded_put (k := 54) (by kernel_rfl) (by kernel_rfl) 64 rfl (by decide) q15), ?_⟩
      generalize hev : Act.eval _ = ev
      have ec : ∀ c, ev (.const c) = c := fun c => by rw [← hev]; rfl
      have e55 : ev (.tmp 55) = .pointer (some ⟨g13, 13, none⟩) := by rw [← hev]; exact (eval_put (by kernel_rfl) 64 rfl (by decide)).trans q16
      clear hev hd q16 q15
      obtain ⟨cc0, cc1, cc2, cc3, cc4, cc5, cc6, cc7, cc8, cc9, cc10, cc11, cc12, cc13, cc14, cc15, cc16, cc17, cc18, cc19, cc20, cc21, cc22, cc23, cc24, cc25, cc26, cc27, cc28, cc29, cc30, cc31, cc32, cc33, cc34, cc35, cc36, cc37, cc38, cc39, cc40⟩ := HS W hVW
      exact .inl ⟨_, W, by go_simp, ⟨L5, A5, c5, rfl, HL5, r5.next hVW⟩, Below.refl _ _⟩
    · obtain rfl := Option.some.inj hoo
      have q15 : uu 15 = .bool true := hd 15 (by kernel_rfl)
      refine .inl ⟨wanted_yes rfl (yielded_put (k := 54) (by kernel_rfl) (by kernel_rfl) 64 rfl (by decide) q15), ?_⟩
      generalize hev : Act.eval _ = ev
      have ec : ∀ c, ev (.const c) = c := fun c => by rw [← hev]; rfl
      have e12 : ev (.tmp 12) = .pointer (some ⟨g12, 0, none⟩) := by rw [← hev]; exact eval_old (by kernel_rfl) 64 rfl (by decide) rfl
      clear hev hd q15
      obtain ⟨cc0, cc1, cc2, cc3, cc4, cc5, cc6, cc7, cc8, cc9, cc10, cc11, cc12, cc13, cc14, cc15, cc16, cc17, cc18, cc19, cc20, cc21, cc22, cc23, cc24, cc25, cc26, cc27, cc28, cc29, cc30, cc31, cc32, cc33, cc34, cc35, cc36, cc37, cc38, cc39, cc40⟩ := HS W hVW
      exact .inl ⟨_, W, by go_simp, rfl, Below.refl _ _⟩
    · obtain rfl := Option.some.inj hoo
      have q18 : uu 18 = .agg #[.int .u16 2, .int .u8 (n0.toNat : Int), .int .u8 (n1.toNat : Int), .int .u8 (n2.toNat : Int), .int .u8 (n3.toNat : Int), .int .u8 (n4.toNat : Int), .int .u8 (n5.toNat : Int), .int .u32 (d.toNat : Int), .int .u8 (m0.toNat : Int), .int .u8 (m1.toNat : Int), .int .u8 (m2.toNat : Int), .int .u8 (m3.toNat : Int), .int .u8 (m4.toNat : Int), .int .u8 (m5.toNat : Int), .int .u32 (s.toNat : Int)] := hd 18 (by kernel_rfl)
      have q15 : uu 15 = .bool true := hd 15 (by kernel_rfl)
      refine .inl ⟨wanted_yes rfl (yielded_put (k := 54) (by kernel_rfl) (by kernel_rfl) 64 rfl (by decide) q15), ?_⟩
      generalize hev : Act.eval _ = ev
      have ec : ∀ c, ev (.const c) = c := fun c => by rw [← hev]; rfl
      have ef : ∀ f, ev (.func f) = .func (.func f) #[] #[] := fun f => by rw [← hev]; rfl
      have e57 : ev (.tmp 57) = .agg #[.int .u16 2, .int .u8 (n0.toNat : Int), .int .u8 (n1.toNat : Int), .int .u8 (n2.toNat : Int), .int .u8 (n3.toNat : Int), .int .u8 (n4.toNat : Int), .int .u8 (n5.toNat : Int), .int .u32 (d.toNat : Int), .int .u8 (m0.toNat : Int), .int .u8 (m1.toNat : Int), .int .u8 (m2.toNat : Int), .int .u8 (m3.toNat : Int), .int .u8 (m4.toNat : Int), .int .u8 (m5.toNat : Int), .int .u32 (s.toNat : Int)] := by rw [← hev]; exact (eval_put (by kernel_rfl) 64 rfl (by decide)).trans q18
      clear hev hd q18 q15
      exact .inr ⟨_, _, _, by go_simp, (HRP W).out, fun e w' he => by
        obtain ⟨L, A, c, rfl, HL, hr, hb⟩ := he
        exact ⟨_, rfl, ⟨L, A, c, rfl, HL, hr⟩, hb⟩⟩
    · obtain rfl := Option.some.inj hoo
      obtain ⟨L17, A17, c17, q17, HL17, r17⟩ := hd 17 (by kernel_rfl)
      obtain ⟨L19, A19, c19, q19, HL19, r19⟩ := hd 19 (by kernel_rfl)
      have q15 : uu 15 = .bool true := hd 15 (by kernel_rfl)
      refine .inl ⟨wanted_yes rfl (yielded_put (k := 54) (by kernel_rfl) (by kernel_rfl) 64 rfl (by decide) q15), ?_⟩
      generalize hev : Act.eval _ = ev
      have ec : ∀ c, ev (.const c) = c := fun c => by rw [← hev]; rfl
      have ef : ∀ f, ev (.func f) = .func (.func f) #[] #[] := fun f => by rw [← hev]; rfl
      have e56 : ev (.tmp 56) = .slice A17 L17.length c17 := by rw [← hev]; exact (eval_put (by kernel_rfl) 64 rfl (by decide)).trans q17
      have e58 : ev (.tmp 58) = .slice A19 L19.length c19 := by rw [← hev]; exact (eval_put (by kernel_rfl) 64 rfl (by decide)).trans q19
      clear hev hd q17 q19 q15
      exact .inr ⟨_, _, _, by go_simp, rsame_eq _ _ _ _ L17 L19 W _ r17 r19 (by rw [HL17.out, HL19.out]), fun e w' he => ⟨_, he.1, rfl, he.2.below⟩⟩
    · obtain rfl := Option.some.inj hoo
      have q15 : uu 15 = .bool true := hd 15 (by kernel_rfl)
      have q20 : uu 20 = .bool true := hd 20 (by kernel_rfl)
      refine .inl ⟨wanted_none rfl, ?_⟩
      generalize hev : Act.eval _ = ev
      have ec : ∀ c, ev (.const c) = c := fun c => by rw [← hev]; rfl
      have e54 : ev (.tmp 54) = .bool true := by rw [← hev]; exact (eval_put (by kernel_rfl) 64 rfl (by decide)).trans q15
      have e59 : ev (.tmp 59) = .bool true := by rw [← hev]; exact (eval_put (by kernel_rfl) 64 rfl (by decide)).trans q20
      clear hev hd q15 q20
      exact .inl ⟨_, W, by go_simp, rfl, Below.refl _ _⟩
    · obtain rfl := Option.some.inj hoo
      have q21 : uu 21 = .bool true := hd 21 (by kernel_rfl)
      refine .inl ⟨wanted_none rfl, ?_⟩
      generalize hev : Act.eval _ = ev
      have ec : ∀ c, ev (.const c) = c := fun c => by rw [← hev]; rfl
      have e60 : ev (.tmp 60) = .bool true := by rw [← hev]; exact (eval_put (by kernel_rfl) 64 rfl (by decide)).trans q21
      clear hev hd q21
      exact .inl ⟨_, W, by go_simp, rfl, Below.refl _ _⟩
    · obtain rfl := Option.some.inj hoo
      have q22 : uu 22 = .bool true := hd 22 (by kernel_rfl)
      refine .inl ⟨wanted_yes rfl (yielded_put (k := 61) (by kernel_rfl) (by kernel_rfl) 64 rfl (by decide) q22), ?_⟩
      generalize hev : Act.eval _ = ev
      have ec : ∀ c, ev (.const c) = c := fun c => by rw [← hev]; rfl
      have ef : ∀ f, ev (.func f) = .func (.func f) #[] #[] := fun f => by rw [← hev]; rfl
      clear hev hd q22
      exact .inr ⟨_, _, _, by go_simp, lives05_any W, fun e w' he => ⟨_, he.1, rfl, he.2⟩⟩
    · obtain rfl := Option.some.inj hoo
      have q22 : uu 22 = .bool true := hd 22 (by kernel_rfl)
      have q23 : uu 23 = .bool true := hd 23 (by kernel_rfl)
      refine .inl ⟨wanted_none rfl, ?_⟩
      generalize hev : Act.eval _ = ev
      have ec : ∀ c, ev (.const c) = c := fun c => by rw [← hev]; rfl
      have e61 : ev (.tmp 61) = .bool true := by rw [← hev]; exact (eval_put (by kernel_rfl) 64 rfl (by decide)).trans q22
      have e62 : ev (.tmp 62) = .bool true := by rw [← hev]; exact (eval_put (by kernel_rfl) 64 rfl (by decide)).trans q23
      clear hev hd q22 q23
      exact .inl ⟨_, W, by go_simp, rfl, Below.refl _ _⟩
    · obtain rfl := Option.some.inj hoo
      have q24 : uu 24 = .bool true := hd 24 (by kernel_rfl)
      refine .inl ⟨wanted_none rfl, ?_⟩
      generalize hev : Act.eval _ = ev
      have ec : ∀ c, ev (.const c) = c := fun c => by rw [← hev]; rfl
      have e63 : ev (.tmp 63) = .bool true := by rw [← hev]; exact (eval_put (by kernel_rfl) 64 rfl (by decide)).trans q24
      clear hev hd q24
      exact .inl ⟨_, W, by go_simp, rfl, Below.refl _ _⟩
    · simp at hoo
  · intro uu W hVW hall
    have q25 : uu 25 = .bool true := hall 25 (by decide)
    replace hB := hB.trans (hVW.mono hB.size)
    clear hall HS hVW
    simp only [putAll, Act.put, Nat.reduceAdd, q25]
    simp only [List.setIfInBounds_toArray, List.set_cons_succ, List.set_cons_zero]
    go_wp2_with fail
    go_ret
    exact ⟨rfl, hB⟩

end Go.Proofs.Ytiokofpmmlbncab
