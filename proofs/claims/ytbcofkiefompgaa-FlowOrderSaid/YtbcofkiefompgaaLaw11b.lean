/- The walk of the statement on which flow a packet is of. -/
import Derived.Test.YtbcofkiefompgaaLaw11
namespace Go.Proofs.Ytbcofkiefompgaa
open Go.RowKit

set_option maxRecDepth 8000 in
theorem flives_any (w : World) : Calls Try.prog 23 #[] w fun e w' => e = .returned (.bool true) ∧ Below w.heap.size w w' := by
  have h4 := rd_lit (f := bv) w #[.int .u8 0, .int .u8 10, .int .u8 0, .int .u8 20] 5 [0, 10, 0, 20] rfl (by decide)
  have hA := (Below.refl w.heap.size w).alloc (Nat.le_refl _) (.cells #[.int .u8 0, .int .u8 10, .int .u8 0, .int .u8 20] 5)
  have h5 : Rd bv (w.alloc (.cells #[.int .u8 0, .int .u8 10, .int .u8 0, .int .u8 20] 5)) (w.alloc (.cells #[.int .u8 0, .int .u8 10, .int .u8 0, .int .u8 20] 5)).heap.size (some ⟨w.heap.size, 0, none⟩) 4 [0, 10, 0, 20] := h4.more (by simp)
  have HF : Hid (Calls Try.prog 21 #[.agg #[.int .u8 0, .int .u16 0, .bool false, .bool false, .int .u16 0, .int .u8 0, .int .u8 6, .int .u32 1, .int .u32 2, .slice none 0 0, .slice (some ⟨w.heap.size, 0, none⟩) 4 4]] (w.alloc (.cells #[.int .u8 0, .int .u8 10, .int .u8 0, .int .u8 20] 5)) fun e w' => e = .returned (.tuple #[.agg #[.int .u32 1, .int .u32 2, .int .u16 10, .int .u16 20, .int .u8 6], .int .i64 0]) ∧ Below (w.alloc (.cells #[.int .u8 0, .int .u8 10, .int .u8 0, .int .u8 20] 5)).heap.size (w.alloc (.cells #[.int .u8 0, .int .u8 10, .int .u8 0, .int .u8 20] 5)) w') :=
    fof_ok6 (.int .u8 0) (.int .u16 0) (.bool false) (.int .u8 0) (.slice none 0 0) 0 1 2 (some ⟨w.heap.size, 0, none⟩) 4 [0, 10, 0, 20] rfl _ h5 (by decide)
  clear h4 h5
  go_enter Try.func23, Try.ntmps23
  go_wp2_with fail
  refine HF.out.mono ?_
  rintro e w1 ⟨rfl, hb⟩
  have hB1 := bnext hA hb
  go_wp2_with fail
  go_ret
  exact ⟨rfl, bnextA hB1 _⟩

set_option maxRecDepth 4000 in
set_option maxHeartbeats 2000000 in
theorem FlowOf_walk (a0_0 a0_1 : Int) (a0_2 a0_3 : Bool) (a0_4 a0_5 a0_6 a0_7 a0_8 : Int) (a0_9 : Option Addr) (len0_9 cap0_9 : Nat) (z0_9 : List Int) (a0_10 : Option Addr) (len0_10 cap0_10 : Nat) (z0_10 : List Int) (w : World) (_w0_0 : (Lit.int .u8 a0_0).wf = true) (_w0_1 : (Lit.int .u16 a0_1).wf = true) (_w0_4 : (Lit.int .u16 a0_4).wf = true) (_w0_5 : (Lit.int .u8 a0_5).wf = true) (_w0_6 : (Lit.int .u8 a0_6).wf = true) (_w0_7 : (Lit.int .u32 a0_7).wf = true) (_w0_8 : (Lit.int .u32 a0_8).wf = true) (w0_9 : InRow .u8 w a0_9 len0_9 cap0_9 z0_9) (w0_10 : InRow .u8 w a0_10 len0_10 cap0_10 z0_10) :
    Calls Try.prog 4 #[.agg #[.int .u8 a0_0, .int .u16 a0_1, .bool a0_2, .bool a0_3, .int .u16 a0_4, .int .u8 a0_5, .int .u8 a0_6, .int .u32 a0_7, .int .u32 a0_8, .slice a0_9 len0_9 cap0_9, .slice a0_10 len0_10 cap0_10]] w fun e w' => e = .returned (.bool true) ∧ Below w.heap.size w w' := by
  obtain ⟨os, rfl, hos⟩ := row_rd w0_9
  obtain ⟨ds, rfl, hds⟩ := row_rd w0_10
  clear _w0_0 _w0_1 _w0_4 _w0_5 _w0_6 _w0_7 _w0_8 w0_9 w0_10
  have HFW := fun W => pfew_any a0_0 a0_1 a0_2 a0_3 a0_4 a0_5 a0_6 a0_7 a0_8 a0_9 os.length cap0_9 a0_10 ds.length cap0_10 W hos.len hos.cap hds.len hds.cap
  have hmin : min ds.length 300 = (ds.take 300).length := by simp [Nat.min_comm]
  rw [hmin] at HFW
  have hxs := hds.take 300
  obtain ⟨xs, hx⟩ : ∃ xs, ds.take 300 = xs := ⟨_, rfl⟩
  rw [hx] at HFW hxs
  obtain ⟨m9, hm9⟩ : ∃ m, min os.length 50 = m := ⟨_, rfl⟩
  rw [hm9] at HFW
  have HFW := fun W => Lib.hid (HFW W)
  obtain ⟨f0, f1, f2, f3, f4, er, HO1, HO2⟩ := of_both (.int .u8 a0_0) (.int .u16 a0_1) (.bool a0_2) (.int .u8 a0_5) (.slice a0_9 m9 cap0_9) a0_3 a0_4 a0_6 a0_7 a0_8 a0_10 cap0_10 xs hxs.len hxs.cap
  have HO1 := Lib.hid HO1
  have HO2 := Lib.hid HO2
  clear hmin hx hm9
  have hB0 := bnextA (Below.refl w.heap.size w) (.cells #[.int .u8 a0_0, .int .u16 a0_1, .bool a0_2, .bool a0_3, .int .u16 a0_4, .int .u8 a0_5, .int .u8 a0_6, .int .u32 a0_7, .int .u32 a0_8, .slice a0_9 os.length cap0_9, .slice a0_10 ds.length cap0_10] 34)
  have hb0 := Blk.new w #[.int .u8 a0_0, .int .u16 a0_1, .bool a0_2, .bool a0_3, .int .u16 a0_4, .int .u8 a0_5, .int .u8 a0_6, .int .u32 a0_7, .int .u32 a0_8, .slice a0_9 os.length cap0_9, .slice a0_10 ds.length cap0_10] 34
  clear hos hds
  go_enter Try.func4, Try.ntmps4
  go_wp2_with fail
  refine (HFW _).out.mono ?_
  rintro e w1 ⟨rfl, hb⟩
  have hb1 := hb0.next hb
  have hB1 := bnext hB0 hb
  clear hb hB0 hb0 HFW
  have hb2 : Blk (((((((((((w1.setCell ⟨w.heap.size, 0, none⟩ (.int .u8 a0_0)).setCell ⟨w.heap.size, 1, none⟩ (.int .u16 a0_1)).setCell ⟨w.heap.size, 2, none⟩ (.bool a0_2)).setCell ⟨w.heap.size, 3, none⟩ (.bool a0_3)).setCell ⟨w.heap.size, 4, none⟩ (.int .u16 a0_4)).setCell ⟨w.heap.size, 5, none⟩ (.int .u8 a0_5)).setCell ⟨w.heap.size, 6, none⟩ (.int .u8 a0_6)).setCell ⟨w.heap.size, 7, none⟩ (.int .u32 a0_7)).setCell ⟨w.heap.size, 8, none⟩ (.int .u32 a0_8)).setCell ⟨w.heap.size, 9, none⟩ (.slice a0_9 m9 cap0_9)).setCell ⟨w.heap.size, 10, none⟩ (.slice a0_10 xs.length cap0_10)) w.heap.size [.int .u8 a0_0, .int .u16 a0_1, .bool a0_2, .bool a0_3, .int .u16 a0_4, .int .u8 a0_5, .int .u8 a0_6, .int .u32 a0_7, .int .u32 a0_8, .slice a0_9 m9 cap0_9, .slice a0_10 xs.length cap0_10] 34 := ((((((((((hb1.set 0 _).set 1 _).set 2 _).set 3 _).set 4 _).set 5 _).set 6 _).set 7 _).set 8 _).set 9 _).set 10 _
  have hB2 := bset11 hB1 (Nat.le_refl w.heap.size) (.int .u8 a0_0) (.int .u16 a0_1) (.bool a0_2) (.bool a0_3) (.int .u16 a0_4) (.int .u8 a0_5) (.int .u8 a0_6) (.int .u32 a0_7) (.int .u32 a0_8) (.slice a0_9 m9 cap0_9) (.slice a0_10 xs.length cap0_10)
  have y0 := hb1.cell 0
  have z0 := hb1.frozen 0
  have y1 := hb1.cell 1
  have z1 := hb1.frozen 1
  have y2 := hb1.cell 2
  have z2 := hb1.frozen 2
  have y3 := hb1.cell 3
  have z3 := hb1.frozen 3
  have y4 := hb1.cell 4
  have z4 := hb1.frozen 4
  have y5 := hb1.cell 5
  have z5 := hb1.frozen 5
  have y6 := hb1.cell 6
  have z6 := hb1.frozen 6
  have y7 := hb1.cell 7
  have z7 := hb1.frozen 7
  have y8 := hb1.cell 8
  have z8 := hb1.frozen 8
  have y9 := hb1.cell 9
  have z9 := hb1.frozen 9
  have y10 := hb1.cell 10
  have z10 := hb1.frozen 10
  simp only [List.getElem?_cons_succ, List.getElem?_cons_zero] at y0 y1 y2 y3 y4 y5 y6 y7 y8 y9 y10
  go_wp2_with fail
  clear y0 y1 y2 y3 y4 y5 y6 y7 y8 y9 y10 z0 z1 z2 z3 z4 z5 z6 z7 z8 z9 z10 hb1 hB1
  generalize ((((((((((w1.setCell ⟨w.heap.size, 0, none⟩ (.int .u8 a0_0)).setCell ⟨w.heap.size, 1, none⟩ (.int .u16 a0_1)).setCell ⟨w.heap.size, 2, none⟩ (.bool a0_2)).setCell ⟨w.heap.size, 3, none⟩ (.bool a0_3)).setCell ⟨w.heap.size, 4, none⟩ (.int .u16 a0_4)).setCell ⟨w.heap.size, 5, none⟩ (.int .u8 a0_5)).setCell ⟨w.heap.size, 6, none⟩ (.int .u8 a0_6)).setCell ⟨w.heap.size, 7, none⟩ (.int .u32 a0_7)).setCell ⟨w.heap.size, 8, none⟩ (.int .u32 a0_8)).setCell ⟨w.heap.size, 9, none⟩ (.slice a0_9 m9 cap0_9)).setCell ⟨w.heap.size, 10, none⟩ (.slice a0_10 xs.length cap0_10) = V at hb2 hB2 ⊢
  refine (HO1.out V ((hxs.below hB2).more hB2.size)).mono ?_
  rintro e w3 ⟨rfl, hb⟩
  have hb3 := hb2.next hb
  have hB3 := bnext hB2 hb
  clear hb hb2 hB2 HO1
  have hlt3 := hb3.lt
  have y0 := hb3.cell 0
  have y1 := hb3.cell 1
  have y2 := hb3.cell 2
  have y3 := hb3.cell 3
  have y4 := hb3.cell 4
  have y5 := hb3.cell 5
  have y6 := hb3.cell 6
  have y7 := hb3.cell 7
  have y8 := hb3.cell 8
  have y9 := hb3.cell 9
  have y10 := hb3.cell 10
  simp only [List.getElem?_cons_succ, List.getElem?_cons_zero] at y0 y1 y2 y3 y4 y5 y6 y7 y8 y9 y10
  have hF := Blk.new w3 #[.int .u32 f0, .int .u32 f1, .int .u16 f2, .int .u16 f3, .int .u8 f4] 37
  have hb4 := hb3.alloc (.cells #[.int .u32 f0, .int .u32 f1, .int .u16 f2, .int .u16 f3, .int .u8 f4] 37)
  have hB4 := bnextA hB3 (.cells #[.int .u32 f0, .int .u32 f1, .int .u16 f2, .int .u16 f3, .int .u8 f4] 37)
  go_wp2_with fail
  generalize w3.heap.size = G at hF ⊢
  generalize w3.alloc (.cells #[.int .u32 f0, .int .u32 f1, .int .u16 f2, .int .u16 f3, .int .u8 f4] 37) = V4 at hF hb4 hB4 ⊢
  clear y0 y1 y2 y3 y4 y5 y6 y7 y8 y9 y10 hlt3 hb3 hB3
  refine (HO2.out V4 ((hxs.below hB4).more hB4.size)).mono ?_
  rintro e w5 ⟨rfl, hb⟩
  have hF5 := hF.next hb
  have hB5 := bnext hB4 hb
  clear hb hF hb4 hB4 HO2 hxs
  have hlt5 := hF5.lt
  obtain ⟨g0, g1, g2, g3, g4, k0, k1, k2, k3, k4⟩ := fl_cells hF5
  go_wp2_with fail
  refine (flives_any _).mono ?_
  rintro e w6 ⟨rfl, hb⟩
  go_wp2_with fail
  go_ret
  exact ⟨rfl, bnext (bnextA hB5 _) hb⟩
end Go.Proofs.Ytbcofkiefompgaa
