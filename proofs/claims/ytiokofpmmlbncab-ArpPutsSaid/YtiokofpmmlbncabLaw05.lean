/- The walks of the statements on package arp. -/
import Derived.Test.YtiokofpmmlbncabArp5
import Derived.Test.YtiokofpmmlbncabArp5a
import Derived.Test.YtiokofpmmlbncabReg2
namespace Go.Proofs.Ytiokofpmmlbncab
open Go.RowKit

@[go_sem] theorem eqmac3 (x0 x1 x2 x3 x4 x5 y0 y1 y2 y3 y4 y5 : Int) (w : World) :
    (Op.equalIn 9999 45 (.agg #[.int .u8 x0, .int .u8 x1, .int .u8 x2, .int .u8 x3, .int .u8 x4, .int .u8 x5]) (.agg #[.int .u8 y0, .int .u8 y1, .int .u8 y2, .int .u8 y3, .int .u8 y4, .int .u8 y5])).run Try.prog w = .ok (x0 == y0 && (x1 == y1 && (x2 == y2 && (x3 == y3 && (x4 == y4 && x5 == y5))))) w := eqmac2 x0 x1 x2 x3 x4 x5 y0 y1 y2 y3 y4 y5 w
set_option maxRecDepth 10000 in
set_option maxHeartbeats 4000000 in
theorem lives05_any (w : World) : Calls Try.prog 26 #[] w fun e w' => e = .returned (.bool true) ∧ Below w.heap.size w w' := by
  obtain ⟨z8, e0⟩ : ∃ a : UInt8, (a.toNat : Int) = 0 := ⟨0, rfl⟩
  obtain ⟨t8, e2⟩ : ∃ a : UInt8, (a.toNat : Int) = 2 := ⟨2, rfl⟩
  obtain ⟨o1, e1⟩ : ∃ a : UInt16, (a.toNat : Int) = 1 := ⟨1, rfl⟩
  obtain ⟨s5, e5⟩ : ∃ a : UInt32, (a.toNat : Int) = 5 := ⟨5, rfl⟩
  obtain ⟨d6, e6⟩ : ∃ a : UInt32, (a.toNat : Int) = 6 := ⟨6, rfl⟩
  have H1 : ∀ W, Hid (Calls Try.prog 30 #[.agg #[.int .u8 2, .int .u8 0, .int .u8 0, .int .u8 0, .int .u8 0, .int .u8 0], .int .u32 5, .int .u32 6] W fun e w' => e = .returned (.agg #[.int .u16 1, .int .u8 2, .int .u8 0, .int .u8 0, .int .u8 0, .int .u8 0, .int .u8 0, .int .u32 5, .int .u8 0, .int .u8 0, .int .u8 0, .int .u8 0, .int .u8 0, .int .u8 0, .int .u32 6]) ∧ Below W.heap.size W w') := by
    intro W
    have h := ask_any t8 z8 z8 z8 z8 z8 s5 d6 W
    simp only [e0, e2, e5, e6] at h
    exact h
  have H2 : ∀ W, Hid (Calls Try.prog 25 #[.agg #[.int .u16 1, .int .u8 2, .int .u8 0, .int .u8 0, .int .u8 0, .int .u8 0, .int .u8 0, .int .u32 5, .int .u8 0, .int .u8 0, .int .u8 0, .int .u8 0, .int .u8 0, .int .u8 0, .int .u32 6]] W fun e w' => ∃ L A c, e = .returned (.slice A L.length c) ∧ Hid (L = arpB o1 t8 z8 z8 z8 z8 z8 s5 z8 z8 z8 z8 z8 z8 d6) ∧ Rd bv w' w'.heap.size A c L ∧ Below W.heap.size W w') := by
    intro W
    have h := aput_any o1 t8 z8 z8 z8 z8 z8 s5 z8 z8 z8 z8 z8 z8 d6 W
    simp only [e0, e1, e2, e5, e6] at h
    exact h
  have H3 : ∀ L, L = arpB o1 t8 z8 z8 z8 z8 z8 s5 z8 z8 z8 z8 z8 z8 d6 → ∀ A c W, Rd bv W W.heap.size A c L → Hid (Calls Try.prog 23 #[.slice A L.length c] W fun e w' => e = .returned (.tuple #[.agg #[.int .u16 1, .int .u8 2, .int .u8 0, .int .u8 0, .int .u8 0, .int .u8 0, .int .u8 0, .int .u32 5, .int .u8 0, .int .u8 0, .int .u8 0, .int .u8 0, .int .u8 0, .int .u8 0, .int .u32 6], .int .i64 0]) ∧ Below W.heap.size W w') := by
    intro L hL A c W hr
    have h := (aparse_put o1 t8 z8 z8 z8 z8 z8 s5 z8 z8 z8 z8 z8 z8 d6 [] L (by simp) (by rw [hL, List.append_nil]) A c W hr).1 ⟨.inl (by omega), by simp [uniB, e0, show t8.toNat = 2 by omega]⟩
    simp only [e0, e1, e2, e5, e6] at h
    exact h
  have HLT : ∀ L, L = arpB o1 t8 z8 z8 z8 z8 z8 s5 z8 z8 z8 z8 z8 z8 d6 → L.length = 28 := fun L h => by rw [h, arpB_len]
  clear e0 e1 e2 e5 e6
  go_enter Try.func26, Try.ntmps26
  go_wp2_with fail
  refine (H1 _).out.mono ?_
  rintro e w1 ⟨rfl, hb⟩
  have hB := bnextA hb (.cells #[.int .u16 1, .int .u8 2, .int .u8 0, .int .u8 0, .int .u8 0, .int .u8 0, .int .u8 0, .int .u32 5, .int .u8 0, .int .u8 0, .int .u8 0, .int .u8 0, .int .u8 0, .int .u8 0, .int .u32 6] 47)
  have K1 := Blk.new w1 #[.int .u16 1, .int .u8 2, .int .u8 0, .int .u8 0, .int .u8 0, .int .u8 0, .int .u8 0, .int .u32 5, .int .u8 0, .int .u8 0, .int .u8 0, .int .u8 0, .int .u8 0, .int .u8 0, .int .u32 6] 47
  obtain ⟨p0, p1, p2, p3, p4, p5, p6, p7, p8, p9, p10, p11, p12, p13, p14, -⟩ := K1.get15
  clear hb H1
  go_wp2_with fail
  refine (H2 _).out.mono ?_
  rintro e w2 ⟨L, A, c, rfl, HL, r, hb⟩
  replace hB := bnext hB hb
  replace K1 := K1.next hb
  clear hb p0 p1 p2 p3 p4 p5 p6 p7 p8 p9 p10 p11 p12 p13 p14
  go_wp2_with fail
  refine (H3 L HL.out _ _ _ r).out.mono ?_
  rintro e w3 ⟨rfl, hb⟩
  replace hB := bnextA (bnext hB hb) (.cells #[.int .u16 1, .int .u8 2, .int .u8 0, .int .u8 0, .int .u8 0, .int .u8 0, .int .u8 0, .int .u32 5, .int .u8 0, .int .u8 0, .int .u8 0, .int .u8 0, .int .u8 0, .int .u8 0, .int .u32 6] 47)
  replace K1 := (K1.next hb).alloc (.cells #[.int .u16 1, .int .u8 2, .int .u8 0, .int .u8 0, .int .u8 0, .int .u8 0, .int .u8 0, .int .u32 5, .int .u8 0, .int .u8 0, .int .u8 0, .int .u8 0, .int .u8 0, .int .u8 0, .int .u32 6] 47)
  have K2 := Blk.new w3 #[.int .u16 1, .int .u8 2, .int .u8 0, .int .u8 0, .int .u8 0, .int .u8 0, .int .u8 0, .int .u32 5, .int .u8 0, .int .u8 0, .int .u8 0, .int .u8 0, .int .u8 0, .int .u8 0, .int .u32 6] 47
  obtain ⟨p0, p1, p2, p3, p4, p5, p6, p7, p8, p9, p10, p11, p12, p13, p14, -⟩ := K1.get15
  obtain ⟨q0, q1, q2, q3, q4, q5, q6, q7, q8, q9, q10, q11, q12, q13, q14, -⟩ := K2.get15
  clear hb H3 r
  go_wp2_with fail
  refine (H2 _).out.mono ?_
  rintro e w4 ⟨L2, A2, c2, rfl, HL2, -, hb⟩
  have hl2 := HLT L2 HL2.out
  replace hB := bnext hB hb
  clear hb p0 p1 p2 p3 p4 p5 p6 p7 p8 p9 p10 p11 p12 p13 p14 q0 q1 q2 q3 q4 q5 q6 q7 q8 q9 q10 q11 q12 q13 q14 K1 K2 HL HL2
  go_wp2_with fail
  go_ret
  exact ⟨rfl, hB⟩

end Go.Proofs.Ytiokofpmmlbncab
