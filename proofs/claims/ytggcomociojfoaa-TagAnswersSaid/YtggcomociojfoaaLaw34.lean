/- The walks of the statements on package tag. -/
import Derived.Test.YtggcomociojfoaaTag6
import Derived.Test.YtggcomociojfoaaTag7
namespace Go.Proofs.Ytggcomociojfoaa
open Go.RowKit

set_option maxHeartbeats 2000000 in
theorem TagPuts_ok (lo hi : Nat) (h1 : lo < 18446744073709551616) (h2 : hi < 18446744073709551616) (n : Nat) (hn : n < 18446744073709551616) (op : UInt8) (id : UInt16) (vip : UInt8) (a : UInt32) (p : UInt16) (pr num : UInt8) (w : World) :
    Calls Try.prog 4 #[.agg #[.int .u64 (lo : Int), .int .u64 (hi : Int)], .agg #[.int .u64 (n : Int), .int .i64 (op.toNat : Int), .int .i64 (id.toNat : Int), .int .i64 (vip.toNat : Int), .int .u32 (a.toNat : Int), .int .u16 (p.toNat : Int), .int .u8 (pr.toNat : Int), .int .i64 (num.toNat : Int)]] w fun e w' => e = .returned (.bool true) ∧ Below w.heap.size w w' := by
  have P1 := fun W => Lib.hid (put_ok lo hi h1 h2 n hn op id vip a p pr num W)
  have P2 := fun W => Lib.hid (rput_ok lo hi h1 h2 n hn op id vip a p pr num W)
  have P3 := fun L HL A c W hr => Lib.hid (parse_put lo hi h1 h2 n hn op id vip a p pr num L HL A c W hr)
  generalize sgn lo hi (ob n op id vip a p pr num) = B at P1 P2 P3
  obtain ⟨V, hV⟩ : ∃ V, V = (w.alloc (.cells #[.int .u64 (lo : Int), .int .u64 (hi : Int)] 35)).alloc (.cells #[.int .u64 (n : Int), .int .i64 (op.toNat : Int), .int .i64 (id.toNat : Int), .int .i64 (vip.toNat : Int), .int .u32 (a.toNat : Int), .int .u16 (p.toNat : Int), .int .u8 (pr.toNat : Int), .int .i64 (num.toNat : Int)] 37) := ⟨_, rfl⟩
  have hB : Below w.heap.size w V := by subst hV; exact bnextA (bnextA (Below.refl _ _) _) _
  have K : Blk V w.heap.size [.int .u64 (lo : Int), .int .u64 (hi : Int)] 35 := by subst hV; exact (Blk.new _ _ _).alloc _
  have KO : Blk V (w.heap.size + 1) [.int .u64 (n : Int), .int .i64 (op.toNat : Int), .int .i64 (id.toNat : Int), .int .i64 (vip.toNat : Int), .int .u32 (a.toNat : Int), .int .u16 (p.toNat : Int), .int .u8 (pr.toNat : Int), .int .i64 (num.toNat : Int)] 37 := by
    subst hV
    have := Blk.new (w.alloc (.cells #[.int .u64 (lo : Int), .int .u64 (hi : Int)] 35)) #[.int .u64 (n : Int), .int .i64 (op.toNat : Int), .int .i64 (id.toNat : Int), .int .i64 (vip.toNat : Int), .int .u32 (a.toNat : Int), .int .u16 (p.toNat : Int), .int .u8 (pr.toNat : Int), .int .i64 (num.toNat : Int)] 37
    simpa using this
  obtain ⟨z0, z1, -⟩ := K.get2
  obtain ⟨x0, x1, x2, x3, x4, x5, x6, x7, -⟩ := KO.get8
  go_enter Try.func4, Try.ntmps4
  go_wp2_with fail
  rw [← hV]
  clear hV
  refine (P1 _).out.mono ?_
  rintro e w1 ⟨L1, A1, c1, rfl, HL1, r1, hb⟩
  clear z0 z1 x0 x1 x2 x3 x4 x5 x6 x7
  replace K := K.next hb
  replace KO := KO.next hb
  replace hB := bnext hB hb
  clear hb P1
  obtain ⟨z0, z1, -⟩ := K.get2
  obtain ⟨x0, x1, x2, x3, x4, x5, x6, x7, -⟩ := KO.get8
  go_wp2_with fail
  refine (P2 _).out.mono ?_
  rintro e w2 ⟨L2, A2, c2, rfl, HL2, r2, hb⟩
  clear z0 z1 x0 x1 x2 x3 x4 x5 x6 x7
  replace K := K.next hb
  replace KO := KO.next hb
  replace r1 := r1.next hb
  replace hB := bnext hB hb
  clear hb P2
  go_wp2_with fail
  refine (rsame_eq A1 A2 c1 c2 L1 L2 _ _ r1 r2 (by rw [HL1.out, HL2.out])).mono ?_
  rintro e w3 ⟨rfl, hd⟩
  have hb := hd.bel
  replace K := K.next hb
  replace KO := KO.next hb
  replace r1 := r1.next hb
  replace hB := bnext hB hb
  clear hb hd r2
  obtain ⟨z0, z1, -⟩ := K.get2
  obtain ⟨x0, x1, x2, x3, x4, x5, x6, x7, -⟩ := KO.get8
  go_wp2_with fail
  refine ((P3 L1 HL1.out A1 c1 _ r1).out).mono ?_
  rintro e w4 ⟨rfl, hb⟩
  clear z0 z1 x0 x1 x2 x3 x4 x5 x6 x7
  replace K := K.next hb
  replace KO := KO.next hb
  replace hB := bnextA (bnext hB hb) (.cells #[.int .u64 (n : Int), .int .i64 (op.toNat : Int), .int .i64 (id.toNat : Int), .int .i64 (vip.toNat : Int), .int .u32 (a.toNat : Int), .int .u16 (p.toNat : Int), .int .u8 (pr.toNat : Int), .int .i64 (num.toNat : Int)] 37)
  clear hb P3 K r1
  replace KO := KO.alloc (.cells #[.int .u64 (n : Int), .int .i64 (op.toNat : Int), .int .i64 (id.toNat : Int), .int .i64 (vip.toNat : Int), .int .u32 (a.toNat : Int), .int .u16 (p.toNat : Int), .int .u8 (pr.toNat : Int), .int .i64 (num.toNat : Int)] 37)
  obtain ⟨x0, x1, x2, x3, x4, x5, x6, x7, -⟩ := KO.get8
  go_wp2_with fail
  refine (lives34_any _).mono ?_
  rintro e w9 ⟨rfl, hb⟩
  replace hB := bnext hB hb
  go_wp2_with fail
  go_ret
  exact ⟨rfl, hB⟩
set_option maxHeartbeats 2000000 in
theorem TagPuts_bad (lo hi : Nat) (y0 y1 y2 y3 y4 y5 y6 y7 : Int) (hbad : ¬ ((0 ≤ y1 ∧ y1 ≤ 255) ∧ (0 ≤ y3 ∧ y3 ≤ 255) ∧ (0 ≤ y7 ∧ y7 ≤ 255) ∧ (0 ≤ y2 ∧ y2 ≤ 65535))) (w : World) :
    Calls Try.prog 4 #[.agg #[.int .u64 (lo : Int), .int .u64 (hi : Int)], .agg #[.int .u64 y0, .int .i64 y1, .int .i64 y2, .int .i64 y3, .int .u32 y4, .int .u16 y5, .int .u8 y6, .int .i64 y7]] w fun e w' => e = .returned (.bool true) ∧ Below w.heap.size w w' := by
  have P1 := fun W => Lib.hid (put_bad lo hi y0 y1 y2 y3 y4 y5 y6 y7 hbad W)
  have P2 := fun W => Lib.hid (rput_bad lo hi y0 y1 y2 y3 y4 y5 y6 y7 hbad W)
  have P3 := fun W => Lib.hid (parse_form lo hi none 0 [] W (Rd.nil0 _ _ _) (by simp))
  have P4 := fun W => Lib.hid (rsame_yes none none 0 0 [] W W.heap.size (Rd.nil0 _ _ _) (Rd.nil0 _ _ _))
  simp only [List.length_nil] at P3 P4
  clear hbad
  obtain ⟨V, hV⟩ : ∃ V, V = (w.alloc (.cells #[.int .u64 (lo : Int), .int .u64 (hi : Int)] 35)).alloc (.cells #[.int .u64 y0, .int .i64 y1, .int .i64 y2, .int .i64 y3, .int .u32 y4, .int .u16 y5, .int .u8 y6, .int .i64 y7] 37) := ⟨_, rfl⟩
  have hB : Below w.heap.size w V := by subst hV; exact bnextA (bnextA (Below.refl _ _) _) _
  have K : Blk V w.heap.size [.int .u64 (lo : Int), .int .u64 (hi : Int)] 35 := by subst hV; exact (Blk.new _ _ _).alloc _
  have KO : Blk V (w.heap.size + 1) [.int .u64 y0, .int .i64 y1, .int .i64 y2, .int .i64 y3, .int .u32 y4, .int .u16 y5, .int .u8 y6, .int .i64 y7] 37 := by
    subst hV
    have := Blk.new (w.alloc (.cells #[.int .u64 (lo : Int), .int .u64 (hi : Int)] 35)) #[.int .u64 y0, .int .i64 y1, .int .i64 y2, .int .i64 y3, .int .u32 y4, .int .u16 y5, .int .u8 y6, .int .i64 y7] 37
    simpa using this
  obtain ⟨z0, z1, -⟩ := K.get2
  obtain ⟨x0, x1, x2, x3, x4, x5, x6, x7, -⟩ := KO.get8
  go_enter Try.func4, Try.ntmps4
  go_wp2_with fail
  rw [← hV]
  clear hV
  refine (P1 _).out.mono ?_
  rintro e w1 ⟨rfl, hb⟩
  clear z0 z1 x0 x1 x2 x3 x4 x5 x6 x7
  replace K := K.next hb
  replace KO := KO.next hb
  replace hB := bnext hB hb
  clear hb P1
  obtain ⟨z0, z1, -⟩ := K.get2
  obtain ⟨x0, x1, x2, x3, x4, x5, x6, x7, -⟩ := KO.get8
  go_wp2_with fail
  refine (P2 _).out.mono ?_
  rintro e w2 ⟨rfl, hb⟩
  clear z0 z1 x0 x1 x2 x3 x4 x5 x6 x7
  replace K := K.next hb
  replace KO := KO.next hb
  replace hB := bnext hB hb
  clear hb P2
  go_wp2_with fail
  refine ((P4 _).out).mono ?_
  rintro e w3 ⟨rfl, hd⟩
  have hb := hd.bel
  replace K := K.next hb
  replace KO := KO.next hb
  replace hB := bnext hB hb
  clear hb hd P4
  obtain ⟨z0, z1, -⟩ := K.get2
  obtain ⟨x0, x1, x2, x3, x4, x5, x6, x7, -⟩ := KO.get8
  go_wp2_with fail
  refine ((P3 _).out).mono ?_
  rintro e w4 ⟨rfl, hb⟩
  clear z0 z1 x0 x1 x2 x3 x4 x5 x6 x7
  replace K := K.next hb
  replace KO := KO.next hb
  replace hB := bnextA (bnext hB hb) (.cells #[.int .u64 0, .int .i64 0, .int .i64 0, .int .i64 0, .int .u32 0, .int .u16 0, .int .u8 0, .int .i64 0] 37)
  clear hb P3 K
  replace KO := KO.alloc (.cells #[.int .u64 0, .int .i64 0, .int .i64 0, .int .i64 0, .int .u32 0, .int .u16 0, .int .u8 0, .int .i64 0] 37)
  obtain ⟨x0, x1, x2, x3, x4, x5, x6, x7, -⟩ := KO.get8
  go_wp2_with fail
  refine (lives34_any _).mono ?_
  rintro e w9 ⟨rfl, hb⟩
  replace hB := bnext hB hb
  go_wp2_with fail
  go_ret
  exact ⟨rfl, hB⟩
theorem u8_i {x : Int} (h0 : 0 ≤ x) (h1 : x ≤ 255) : ∃ y : UInt8, x = (y.toNat : Int) := ⟨UInt8.ofNat x.toNat, by simp; omega⟩
theorem u16_i {x : Int} (h0 : 0 ≤ x) (h1 : x ≤ 65535) : ∃ y : UInt16, x = (y.toNat : Int) := ⟨UInt16.ofNat x.toNat, by simp; omega⟩
theorem TagPuts_walk (a0_0 a0_1 y0 y1 y2 y3 y4 y5 y6 y7 : Int) (w : World) (w0 : (Lit.int .u64 a0_0).wf = true) (w1 : (Lit.int .u64 a0_1).wf = true) (v0 : (Lit.int .u64 y0).wf = true) (_v1 : (Lit.int .i64 y1).wf = true) (_v2 : (Lit.int .i64 y2).wf = true) (_v3 : (Lit.int .i64 y3).wf = true) (v4 : (Lit.int .u32 y4).wf = true) (v5 : (Lit.int .u16 y5).wf = true) (v6 : (Lit.int .u8 y6).wf = true) (_v7 : (Lit.int .i64 y7).wf = true) :
    Calls Try.prog 4 #[.agg #[.int .u64 a0_0, .int .u64 a0_1], .agg #[.int .u64 y0, .int .i64 y1, .int .i64 y2, .int .i64 y3, .int .u32 y4, .int .u16 y5, .int .u8 y6, .int .i64 y7]] w fun e w' => e = .returned (.bool true) ∧ Below w.heap.size w w' := by
  obtain ⟨lo, rfl, h1⟩ := u64_nat w0
  obtain ⟨hi, rfl, h2⟩ := u64_nat w1
  by_cases hok : (0 ≤ y1 ∧ y1 ≤ 255) ∧ (0 ≤ y3 ∧ y3 ≤ 255) ∧ (0 ≤ y7 ∧ y7 ≤ 255) ∧ (0 ≤ y2 ∧ y2 ≤ 65535)
  · obtain ⟨⟨a1, a2⟩, ⟨b1, b2⟩, ⟨c1, c2⟩, ⟨d1, d2⟩⟩ := hok
    obtain ⟨n, rfl, hn⟩ := u64_nat v0
    obtain ⟨op, rfl⟩ := u8_i a1 a2
    obtain ⟨vip, rfl⟩ := u8_i b1 b2
    obtain ⟨num, rfl⟩ := u8_i c1 c2
    obtain ⟨id, rfl⟩ := u16_i d1 d2
    obtain ⟨a, rfl⟩ := u32_of v4
    obtain ⟨p, rfl⟩ := u16_of v5
    obtain ⟨pr, rfl⟩ := u8_of v6
    exact TagPuts_ok lo hi h1 h2 n hn op id vip a p pr num w
  · exact TagPuts_bad lo hi y0 y1 y2 y3 y4 y5 y6 y7 hok w
theorem few_all {k : IntKind} {a : Option Addr} {len cap : Nat} {zs : List Int} {w : World} (h : InRow k w a len cap zs) (m : Nat) (hm : m ≤ 1000000) (hk : k = .u8 := by rfl) : ∃ bs : List UInt8, bs.length ≤ m ∧ Rd bv w w.heap.size a cap bs ∧
    ∀ W, Hid (Calls Try.prog 20 #[.slice a len cap, .int .i64 m] W fun e w' => e = .returned (.slice a bs.length cap) ∧ W = w') := by
  subst hk
  obtain ⟨bs0, rfl, hb0⟩ := row_rd h
  have hf := fun W => Lib.hid (few_le a bs0.length cap m W hb0.len hb0.cap hm)
  have hmin : min bs0.length m = (bs0.take m).length := by simp [Nat.min_comm]
  rw [hmin] at hf
  exact ⟨bs0.take m, by simp; omega, hb0.take m, hf⟩
set_option maxHeartbeats 2000000 in
theorem tagparses (lo hi : Nat) (a1 : Option Addr) (len1 cap1 : Nat) (xs : List UInt8) (r0 r1 r2 r3 r4 r5 r6 r7 E : Int) (w : World) (ha : Rd bv w w.heap.size a1 cap1 xs) (HFa : ∀ W, Hid (Calls Try.prog 20 #[.slice a1 len1 cap1, .int .i64 100] W fun e w' => e = .returned (.slice a1 xs.length cap1) ∧ W = w'))
    (P1 : ∀ W, Rd bv W W.heap.size a1 cap1 xs → Hid (Calls Try.prog 18 #[.agg #[.int .u64 (lo : Int), .int .u64 (hi : Int)], .slice a1 xs.length cap1] W fun e w' => e = .returned (.tuple #[.agg #[.int .u64 r0, .int .i64 r1, .int .i64 r2, .int .i64 r3, .int .u32 r4, .int .u16 r5, .int .u8 r6, .int .i64 r7], .int .i64 E]) ∧ Below W.heap.size W w'))
    (P2 : ∀ W, Rd bv W W.heap.size a1 cap1 xs → Hid (Calls Try.prog 21 #[.agg #[.int .u64 (lo : Int), .int .u64 (hi : Int)], .slice a1 xs.length cap1] W fun e w' => e = .returned (.tuple #[.agg #[.int .u64 r0, .int .i64 r1, .int .i64 r2, .int .i64 r3, .int .u32 r4, .int .u16 r5, .int .u8 r6, .int .i64 r7], .int .i64 E]) ∧ Below W.heap.size W w')) :
    Calls Try.prog 5 #[.agg #[.int .u64 (lo : Int), .int .u64 (hi : Int)], .slice a1 len1 cap1] w fun e w' => e = .returned (.bool true) ∧ Below w.heap.size w w' := by
  obtain ⟨V, hV⟩ : ∃ V, V = w.alloc (.cells #[.int .u64 (lo : Int), .int .u64 (hi : Int)] 35) := ⟨_, rfl⟩
  have hB : Below w.heap.size w V := by subst hV; exact bnextA (Below.refl _ _) _
  have K : Blk V w.heap.size [.int .u64 (lo : Int), .int .u64 (hi : Int)] 35 := by subst hV; exact Blk.new _ _ _
  replace ha := ha.next hB
  obtain ⟨z0, z1, -⟩ := K.get2
  go_enter Try.func5, Try.ntmps5
  go_wp2_with fail
  rw [← hV]
  clear hV
  refine (HFa _).out.mono ?_
  rintro e wz ⟨rfl, rfl⟩
  clear HFa
  go_wp2_with fail
  refine (P1 _ ha).out.mono ?_
  rintro e w1 ⟨rfl, hb⟩
  clear z0 z1
  have KX := Blk.new w1 #[.int .u64 r0, .int .i64 r1, .int .i64 r2, .int .i64 r3, .int .u32 r4, .int .u16 r5, .int .u8 r6, .int .i64 r7] 37
  replace hB := bnextA (bnext hB hb) (.cells #[.int .u64 r0, .int .i64 r1, .int .i64 r2, .int .i64 r3, .int .u32 r4, .int .u16 r5, .int .u8 r6, .int .i64 r7] 37)
  replace K := (K.next hb).alloc (.cells #[.int .u64 r0, .int .i64 r1, .int .i64 r2, .int .i64 r3, .int .u32 r4, .int .u16 r5, .int .u8 r6, .int .i64 r7] 37)
  replace ha := (ha.next hb).nextA (.cells #[.int .u64 r0, .int .i64 r1, .int .i64 r2, .int .i64 r3, .int .u32 r4, .int .u16 r5, .int .u8 r6, .int .i64 r7] 37)
  clear hb P1
  obtain ⟨z0, z1, -⟩ := K.get2
  go_wp2_with fail
  refine (P2 _ ha).out.mono ?_
  rintro e w2 ⟨rfl, hb⟩
  have hlt : w1.heap.size < w2.heap.size := by have := hb.size; simp at this; omega
  replace hB := bnextA (bnext hB hb) (.cells #[.int .u64 r0, .int .i64 r1, .int .i64 r2, .int .i64 r3, .int .u32 r4, .int .u16 r5, .int .u8 r6, .int .i64 r7] 37)
  have KY := (KX.next hb).alloc (.cells #[.int .u64 r0, .int .i64 r1, .int .i64 r2, .int .i64 r3, .int .u32 r4, .int .u16 r5, .int .u8 r6, .int .i64 r7] 37)
  obtain ⟨x0, x1, x2, x3, x4, x5, x6, x7, -⟩ := KY.get8
  clear hb P2 K KX KY z0 z1 ha
  go_wp2_with fail
  refine (lives34_any _).mono ?_
  rintro e w9 ⟨rfl, hb⟩
  replace hB := bnext hB hb
  go_wp2_with fail
  go_ret
  exact ⟨rfl, hB⟩

theorem TagParses_walk (a0_0 a0_1 : Int) (a1 : Option Addr) (len1 cap1 : Nat) (z1 : List Int) (w : World) (w0 : (Lit.int .u64 a0_0).wf = true) (w1 : (Lit.int .u64 a0_1).wf = true) (w2 : InRow .u8 w a1 len1 cap1 z1) :
    Calls Try.prog 5 #[.agg #[.int .u64 a0_0, .int .u64 a0_1], .slice a1 len1 cap1] w fun e w' => e = .returned (.bool true) ∧ Below w.heap.size w w' := by
  obtain ⟨lo, rfl, h1⟩ := u64_nat w0
  obtain ⟨hi, rfl, h2⟩ := u64_nat w1
  obtain ⟨xs, hxl, ha, HFa⟩ := few_all w2 100 (by omega)
  by_cases hl : xs.length = 28
  · have e8 : xs.length - 8 = 20 := by omega
    by_cases hg : sgn lo hi (xs.take 20) = xs
    · obtain ⟨id, hid⟩ : ∃ id : UInt16, beN ((xs.drop 9).take 2) = id.toNat := ⟨UInt16.ofNat (beN ((xs.drop 9).take 2)), by
        rw [take_two xs 9 (by omega), beN_two]
        have := (xs[9]).toNat_lt
        have := (xs[10]).toNat_lt
        simp
        omega⟩
      obtain ⟨p, hp⟩ : ∃ id : UInt16, beN ((xs.drop 16).take 2) = id.toNat := ⟨UInt16.ofNat (beN ((xs.drop 16).take 2)), by
        rw [take_two xs 16 (by omega), beN_two]
        have := (xs[16]).toNat_lt
        have := (xs[17]).toNat_lt
        simp
        omega⟩
      obtain ⟨a, hA⟩ : ∃ a : UInt32, beN ((xs.drop 12).take 4) = a.toNat := ⟨UInt32.ofNat (beN ((xs.drop 12).take 4)), by
        have := beN_lt ((xs.drop 12).take 4)
        simp
        omega⟩
      exact tagparses lo hi a1 len1 cap1 xs _ _ _ _ _ _ _ _ _ w ha HFa
        (fun W hr => parse_ok lo hi h1 h2 a1 cap1 xs W hr hl (by rw [Hid, e8, hg]; simp) _ rfl _ _ _ _ rfl rfl rfl rfl id hid a hA p hp)
        (fun W hr => rparse_ok lo hi h1 h2 a1 cap1 xs W hr hl hg _ rfl _ _ _ _ rfl rfl rfl rfl id hid a hA p hp)
    · exact tagparses lo hi a1 len1 cap1 xs 0 0 0 0 0 0 0 0 12 w ha HFa
        (fun W hr => parse_tag lo hi h1 h2 a1 cap1 xs W hr hl (by rw [Hid, e8, beq_eq_false_iff_ne]; exact fun h => hg h.symm))
        (fun W hr => rparse_tag lo hi h1 h2 a1 cap1 xs W hr hl hg)
  · exact tagparses lo hi a1 len1 cap1 xs 0 0 0 0 0 0 0 0 3 w ha HFa
      (fun W hr => parse_form lo hi a1 cap1 xs W hr hl) (fun W hr => rparse_form lo hi a1 cap1 xs W hr hl)
set_option maxHeartbeats 4000000 in
theorem taganswers (lo hi : Nat) (h1 : lo < 18446744073709551616) (h2 : hi < 18446744073709551616) (n : Nat) (hn : n < 18446744073709551616) (cd : UInt8) (a3 a4 : Option Addr) (len3 cap3 len4 cap4 : Nat) (xs ys Z : List UInt8) (hxl : xs.length ≤ 200) (r0 r1 E : Int) (w : World) (ha : Rd bv w w.heap.size a3 cap3 xs) (hb0 : Rd bv w w.heap.size a4 cap4 ys)
    (HFa : ∀ W, Hid (Calls Try.prog 20 #[.slice a3 len3 cap3, .int .i64 200] W fun e w' => e = .returned (.slice a3 xs.length cap3) ∧ W = w')) (HFb : ∀ W, Hid (Calls Try.prog 20 #[.slice a4 len4 cap4, .int .i64 200] W fun e w' => e = .returned (.slice a4 ys.length cap4) ∧ W = w'))
    (P5 : ∀ W, Rd bv W W.heap.size a4 cap4 ys → Hid (Calls Try.prog 24 #[.agg #[.int .u64 (lo : Int), .int .u64 (hi : Int)], .slice a4 ys.length cap4] W fun e w' => ∃ L A c, e = .returned (.tuple #[.int .u64 r0, .int .u8 r1, .slice A L.length c, .int .i64 E]) ∧ Hid (L = Z) ∧ Rd bv w' w'.heap.size A c L ∧ Below W.heap.size W w'))
    (P6 : ∀ W, Rd bv W W.heap.size a4 cap4 ys → Hid (Calls Try.prog 25 #[.agg #[.int .u64 (lo : Int), .int .u64 (hi : Int)], .slice a4 ys.length cap4] W fun e w' => ∃ L A c, e = .returned (.tuple #[.int .u64 r0, .int .u8 r1, .slice A L.length c, .int .i64 E]) ∧ Hid (L = Z) ∧ Rd bv w' w'.heap.size A c L ∧ Below W.heap.size W w')) :
    Calls Try.prog 6 #[.agg #[.int .u64 (lo : Int), .int .u64 (hi : Int)], .int .u64 (n : Int), .int .u8 (cd.toNat : Int), .slice a3 len3 cap3, .slice a4 len4 cap4] w fun e w' => e = .returned (.bool true) ∧ Below w.heap.size w w' := by
  have P1 := fun W (h : Rd bv W W.heap.size a3 cap3 xs) => Lib.hid (answer_any lo hi h1 h2 a3 cap3 xs W h (by omega) n hn cd)
  have P2 := fun W (h : Rd bv W W.heap.size a3 cap3 xs) => Lib.hid (ranswer_any lo hi h1 h2 a3 cap3 xs W h (by omega) n hn cd)
  have P3 : ∀ A c (L : List UInt8) W, L = sgn lo hi (b64 n ++ [cd] ++ xs) → Rd bv W W.heap.size A c L → Hid (Calls Try.prog 24 #[.agg #[.int .u64 (lo : Int), .int .u64 (hi : Int)], .slice A L.length c] W fun e w' => ∃ L A c, e = .returned (.tuple #[.int .u64 (n : Int), .int .u8 (cd.toNat : Int), .slice A L.length c, .int .i64 0]) ∧ Hid (L = xs) ∧ Rd bv w' w'.heap.size A c L ∧ Below W.heap.size W w') := by
    intro A c L W hL hr
    have hl : L.length = xs.length + 17 := by rw [hL, sgn_len]; simp [b64_len]; omega
    have hg : Hid ((L == sgn lo hi (L.take (L.length - 8))) = true) := by
      rw [Hid, hl, hL, sgn_eq lo hi (b64 n ++ [cd] ++ xs) (xs.length + 17 - 8) (by simp [b64_len]; omega)]
      simp
    have h := open_ok lo hi h1 h2 A c L W hr (by omega) (by omega) hg
    rw [hl, show xs.length + 17 - 17 = xs.length by omega] at h
    have e1 : n64 L = n := by rw [hL, sgn, List.append_assoc, List.append_assoc]; exact n64_b64 n hn _
    have e2 : L.getD 8 0 = cd := by rw [hL, sgn, b64, putN_four, putN_four]; rfl
    have e3 : (L.drop 9).take xs.length = xs := by
      have : L.drop 9 = xs ++ b64 (sipN lo hi (b64 n ++ [cd] ++ xs)) := by rw [hL, sgn]; conv => { lhs; rw [b64, putN_four, putN_four] }; rfl
      rw [this, List.take_left]
    rw [e1, e2, e3] at h
    rw [hl]
    exact h
  generalize sgn lo hi (b64 n ++ [cd] ++ xs) = B at P1 P2 P3
  clear hxl
  obtain ⟨V, hV⟩ : ∃ V, V = w.alloc (.cells #[.int .u64 (lo : Int), .int .u64 (hi : Int)] 35) := ⟨_, rfl⟩
  have hB : Below w.heap.size w V := by subst hV; exact bnextA (Below.refl _ _) _
  have K : Blk V w.heap.size [.int .u64 (lo : Int), .int .u64 (hi : Int)] 35 := by subst hV; exact Blk.new _ _ _
  replace ha := ha.next hB
  replace hb0 := hb0.next hB
  obtain ⟨z0, z1, -⟩ := K.get2
  go_enter Try.func6, Try.ntmps6
  go_wp2_with fail
  rw [← hV]
  clear hV
  refine (HFa _).out.mono ?_
  rintro e wz ⟨rfl, rfl⟩
  go_wp2_with fail
  refine (HFb _).out.mono ?_
  rintro e wz ⟨rfl, rfl⟩
  clear HFa HFb
  go_wp2_with fail
  refine (P1 _ ha).out.mono ?_
  rintro e w1 ⟨L1, A1, c1, rfl, HL1, q1, hb⟩
  clear z0 z1 P1
  replace K := K.next hb
  replace ha := ha.next hb
  replace hb0 := hb0.next hb
  replace hB := bnext hB hb
  clear hb
  obtain ⟨z0, z1, -⟩ := K.get2
  go_wp2_with fail
  refine (P2 _ ha).out.mono ?_
  rintro e w2 ⟨L2, A2, c2, rfl, HL2, q2, hb⟩
  clear z0 z1 P2
  replace K := K.next hb
  replace ha := ha.next hb
  replace hb0 := hb0.next hb
  replace q1 := q1.next hb
  replace hB := bnext hB hb
  clear hb
  go_wp2_with fail
  refine (rsame_eq A1 A2 c1 c2 L1 L2 _ _ q1 q2 (by rw [HL1.out, HL2.out])).mono ?_
  rintro e w3 ⟨rfl, hd⟩
  have hb := hd.bel
  replace K := K.next hb
  replace ha := ha.next hb
  replace hb0 := hb0.next hb
  replace q1 := q1.next hb
  replace hB := bnext hB hb
  clear hb hd q2
  obtain ⟨z0, z1, -⟩ := K.get2
  go_wp2_with fail
  refine (P3 A1 c1 L1 _ HL1.out q1).out.mono ?_
  rintro e w4 ⟨L3, A3, c3, rfl, HL3, q3, hb⟩
  clear z0 z1 P3
  replace K := K.next hb
  replace ha := ha.next hb
  replace hb0 := hb0.next hb
  replace hB := bnext hB hb
  clear hb q1
  go_wp2_with fail
  refine (rsame_eq A3 a3 c3 cap3 L3 xs _ _ q3 ha HL3.out).mono ?_
  rintro e w5 ⟨rfl, hd⟩
  have hb := hd.bel
  replace K := K.next hb
  replace hb0 := hb0.next hb
  replace hB := bnext hB hb
  clear hb hd q3 ha
  obtain ⟨z0, z1, -⟩ := K.get2
  go_wp2_with fail
  refine (P5 _ hb0).out.mono ?_
  rintro e w6 ⟨L5, A5, c5, rfl, HL5, q5, hb⟩
  clear z0 z1 P5
  replace K := K.next hb
  replace hb0 := hb0.next hb
  replace hB := bnext hB hb
  clear hb
  obtain ⟨z0, z1, -⟩ := K.get2
  go_wp2_with fail
  refine (P6 _ hb0).out.mono ?_
  rintro e w7 ⟨L6, A6, c6, rfl, HL6, q6, hb⟩
  clear z0 z1 P6
  replace q5 := q5.next hb
  replace hB := bnext hB hb
  clear hb K hb0
  go_wp2_with fail
  refine (rsame_eq A5 A6 c5 c6 L5 L6 _ _ q5 q6 (by rw [HL5.out, HL6.out])).mono ?_
  rintro e w8 ⟨rfl, hd⟩
  replace hB := bnext hB hd.bel
  clear hd q5 q6
  go_wp2_with fail
  refine (lives34_any _).mono ?_
  rintro e w9 ⟨rfl, hb⟩
  replace hB := bnext hB hb
  go_wp2_with fail
  go_ret
  exact ⟨rfl, hB⟩

theorem TagAnswers_walk (a0_0 a0_1 x1 x2 : Int) (a3 : Option Addr) (len3 cap3 : Nat) (z3 : List Int) (a4 : Option Addr) (len4 cap4 : Nat) (z4 : List Int) (w : World) (w0 : (Lit.int .u64 a0_0).wf = true) (w1 : (Lit.int .u64 a0_1).wf = true) (w2 : (Lit.int .u64 x1).wf = true) (w3 : (Lit.int .u8 x2).wf = true) (w4 : InRow .u8 w a3 len3 cap3 z3) (w5 : InRow .u8 w a4 len4 cap4 z4) :
    Calls Try.prog 6 #[.agg #[.int .u64 a0_0, .int .u64 a0_1], .int .u64 x1, .int .u8 x2, .slice a3 len3 cap3, .slice a4 len4 cap4] w fun e w' => e = .returned (.bool true) ∧ Below w.heap.size w w' := by
  obtain ⟨lo, rfl, h1⟩ := u64_nat w0
  obtain ⟨hi, rfl, h2⟩ := u64_nat w1
  obtain ⟨n, rfl, hn⟩ := u64_nat w2
  obtain ⟨cd, rfl⟩ := u8_of w3
  obtain ⟨xs, hxl, ha, HFa⟩ := few_all w4 200 (by omega)
  obtain ⟨ys, hyl, hb, HFb⟩ := few_all w5 200 (by omega)
  have err : ∀ {f : Nat} {args : Array Value} {W : World} {E : Int}, Calls Try.prog f args W (fun e w' => e = .returned (.tuple #[.int .u64 0, .int .u8 0, .slice none 0 0, .int .i64 E]) ∧ Below W.heap.size W w') → Calls Try.prog f args W (fun e w' => ∃ (L : List UInt8) (A : Option Addr) (c : Nat), e = .returned (.tuple #[.int .u64 0, .int .u8 0, .slice A L.length c, .int .i64 E]) ∧ Hid (L = []) ∧ Rd bv w' w'.heap.size A c L ∧ Below W.heap.size W w') :=
    fun h => h.mono fun e w' ⟨he, hb⟩ => ⟨[], none, 0, he, rfl, Rd.nil0 _ _ _, hb⟩
  by_cases hl : ys.length < 17
  · exact taganswers lo hi h1 h2 n hn cd a3 a4 len3 cap3 len4 cap4 xs ys [] hxl 0 0 3 w ha hb HFa HFb (fun W hr => err (open_short lo hi a4 cap4 ys W hr hl)) (fun W hr => err (ropen_short lo hi a4 cap4 ys W hr hl))
  · by_cases hg : sgn lo hi (ys.take (ys.length - 8)) = ys
    · exact taganswers lo hi h1 h2 n hn cd a3 a4 len3 cap3 len4 cap4 xs ys _ hxl _ _ 0 w ha hb HFa HFb (fun W hr => open_ok lo hi h1 h2 a4 cap4 ys W hr (by omega) (by omega) (by rw [Hid, hg]; simp)) (fun W hr => ropen_ok lo hi h1 h2 a4 cap4 ys W hr (by omega) (by omega) hg)
    · exact taganswers lo hi h1 h2 n hn cd a3 a4 len3 cap3 len4 cap4 xs ys [] hxl 0 0 12 w ha hb HFa HFb (fun W hr => err (open_tag lo hi h1 h2 a4 cap4 ys W hr (by omega) (by omega) (by rw [Hid, beq_eq_false_iff_ne]; exact fun h => hg h.symm))) (fun W hr => err (ropen_tag lo hi h1 h2 a4 cap4 ys W hr (by omega) (by omega) hg))
end Go.Proofs.Ytggcomociojfoaa
