/- flow.Of and the reference's Of, where there is a flow. -/
import Derived.Test.YtpibempfhgaomaaFlow1
import Derived.Test.YtpibempfhgaomaaOct1
import Derived.Deep.RegionHeld3
namespace Go.Proofs.Ytpibempfhgaomaa
open Go.RowKit

theorem bset5 {B : Nat} {w0 w : World} (hB : Below B w0 w) {g : Nat} (hg : B ≤ g) (v0 v1 v2 v3 v4 : Value) : Below B w0 (((((w.setCell ⟨g, 0, none⟩ v0).setCell ⟨g, 1, none⟩ v1).setCell ⟨g, 2, none⟩ v2).setCell ⟨g, 3, none⟩ v3).setCell ⟨g, 4, none⟩ v4) :=
  ((((hB.setCell hg v0).setCell hg v1).setCell hg v2).setCell hg v3).setCell hg v4
theorem wrap16_all (x y : UInt8) : IntKind.u16.wrap (IntKind.u16.wrap (IntKind.u16.wrap (x.toNat : Int) * 256) + IntKind.u16.wrap (y.toNat : Int)) = ((x.toNat * 256 + y.toNat : Nat) : Int) := by
  have := x.toNat_lt
  have := y.toNat_lt
  simp only [IntKind.wrap_u16]
  omega
theorem get16_two (A : Option Addr) (c : Nat) (xs : List UInt8) (k : Nat) (w : World) (hr : Rd bv w w.heap.size A c xs) (hk : k + 2 ≤ xs.length) :
    Calls Try.prog 39 #[.slice A xs.length c, .int .i64 k] w fun e w' => e = .returned (.tuple #[.int .u16 ((xs[k].toNat * 256 + xs[k + 1].toNat : Nat) : Int), .bool true]) ∧ Drawn w w' := by
  have := get16_yes A c xs k w _ hr hk
  rw [take_two xs k hk, beN_two] at this
  exact this

set_option maxHeartbeats 1000000 in
theorem fof_ok6 (v0 v1 v2 v5 v9 : Value) (off s d : Int) (A : Option Addr) (c : Nat) (xs : List UInt8) (ho : ((off : Int) != 0) = false) (w : World) (hr : Rd bv w w.heap.size A c xs) (h4 : 4 ≤ xs.length) :
    Calls Try.prog 27 #[.agg #[v0, v1, v2, .bool false, .int .u16 off, v5, .int .u8 6, .int .u32 s, .int .u32 d, v9, .slice A xs.length c]] w fun e w' => e = .returned (.tuple #[.agg #[.int .u32 s, .int .u32 d, .int .u16 ((xs[0].toNat * 256 + xs[1].toNat : Nat) : Int), .int .u16 ((xs[2].toNat * 256 + xs[3].toNat : Nat) : Int), .int .u8 6], .int .i64 0]) ∧ Below w.heap.size w w' := by
  have hlc := hr.len
  have hcc := hr.cap
  have hB := bnextA (bnextA (Below.refl w.heap.size w) (.cells #[v0, v1, v2, .bool false, .int .u16 off, v5, .int .u8 6, .int .u32 s, .int .u32 d, v9, .slice A xs.length c] 36)) (.cells #[.int .u32 0, .int .u32 0, .int .u16 0, .int .u16 0, .int .u8 0] 49)
  have hbp := (Blk.new w #[v0, v1, v2, .bool false, .int .u16 off, v5, .int .u8 6, .int .u32 s, .int .u32 d, v9, .slice A xs.length c] 36).alloc (.cells #[.int .u32 0, .int .u32 0, .int .u16 0, .int .u16 0, .int .u8 0] 49)
  have hbf := Blk.new (w.alloc (.cells #[v0, v1, v2, .bool false, .int .u16 off, v5, .int .u8 6, .int .u32 s, .int .u32 d, v9, .slice A xs.length c] 36)) #[.int .u32 0, .int .u32 0, .int .u16 0, .int .u16 0, .int .u8 0] 49
  rw [show (w.alloc (.cells #[v0, v1, v2, .bool false, .int .u16 off, v5, .int .u8 6, .int .u32 s, .int .u32 d, v9, .slice A xs.length c] 36)).heap.size = w.heap.size + 1 by simp] at hbf
  have hdat := (hr.nextA (.cells #[v0, v1, v2, .bool false, .int .u16 off, v5, .int .u8 6, .int .u32 s, .int .u32 d, v9, .slice A xs.length c] 36)).nextA (.cells #[.int .u32 0, .int .u32 0, .int .u16 0, .int .u16 0, .int .u8 0] 49)
  have HP := fun W => Lib.hid (part_no v0 v1 v2 v5 v9 off 6 s d (.slice A xs.length c) ho W)
  have G0 := fun W (h : Rd bv W W.heap.size A c xs) => Lib.hid (get16_two A c xs 0 W h (by omega))
  have G2 := fun W (h : Rd bv W W.heap.size A c xs) => Lib.hid (get16_two A c xs 2 W h (by omega))
  obtain ⟨P0, hP0⟩ : ∃ P0, xs[0].toNat * 256 + xs[1].toNat = P0 := ⟨_, rfl⟩
  obtain ⟨P1, hP1⟩ : ∃ P1, xs[2].toNat * 256 + xs[3].toNat = P1 := ⟨_, rfl⟩
  simp only [Nat.zero_add, hP0] at G0
  simp only [Nat.reduceAdd, hP1] at G2
  rw [hP0, hP1]
  clear hP0 hP1
  go_enter Try.func27, Try.ntmps27
  go_wp2_with fail
  refine (HP _).out.mono ?_
  rintro e w1 ⟨rfl, hb⟩
  have hbp1 := hbp.next hb
  have hbf1 := hbf.next hb
  have hB1 := bnext hB hb
  have hd1 := hdat.next hb
  clear hbp hbf hB HP hb hdat
  obtain ⟨c3, c4, c6, c10⟩ := pk_cells hbp1
  have c7 := hbp1.cell 7
  have c8 := hbp1.cell 8
  simp only [List.getElem?_cons_succ, List.getElem?_cons_zero] at c7 c8
  have hlt1 := hbp1.lt
  have hlt2 := hbf1.lt
  have hb4 := Blk.new w1 #[.int .u32 s, .int .u32 d, .int .u16 0, .int .u16 0, .int .u8 6] 49
  have hd2 := hd1.nextA (.cells #[.int .u32 s, .int .u32 d, .int .u16 0, .int .u16 0, .int .u8 6] 49)
  have hbp2 := hbp1.alloc (.cells #[.int .u32 s, .int .u32 d, .int .u16 0, .int .u16 0, .int .u8 6] 49)
  have hbf2 := hbf1.alloc (.cells #[.int .u32 s, .int .u32 d, .int .u16 0, .int .u16 0, .int .u8 6] 49)
  have hB2 := bnextA hB1 (.cells #[.int .u32 s, .int .u32 d, .int .u16 0, .int .u16 0, .int .u8 6] 49)
  have hle1 : w.heap.size ≤ w1.heap.size := hB1.size
  go_wp2_with fail
  generalize hG : w1.heap.size = G at hb4 hlt1 hlt2 hle1 ⊢
  generalize w1.alloc (.cells #[.int .u32 s, .int .u32 d, .int .u16 0, .int .u16 0, .int .u8 6] 49) = V at hb4 hd2 hbp2 hbf2 hB2 ⊢
  clear hd1 hbp1 hbf1 hB1 hG c3 c4 c6 c7 c8 c10
  refine (G0 V hd2).out.mono ?_
  rintro e w2 ⟨rfl, hd⟩
  have hb4' : Blk w2 G _ _ := hb4.next hd.below
  have hbp3 := hbp2.next hd.below
  have hbf3 := hbf2.next hd.below
  have hd3 := hd2.next hd.below
  have hB3 := bnextD hB2 hd
  clear hb4 hbp2 hbf2 hd2 hB2 hd G0
  obtain ⟨g0, g1, g2, g3, g4, k0, k1, k2, k3, k4⟩ := fl_cells hb4'
  have e4 : Blk (w2.setCell ⟨G, 2, none⟩ (.int .u16 (P0 : Nat))) G [.int .u32 s, .int .u32 d, .int .u16 (P0 : Nat), .int .u16 0, .int .u8 6] 49 := hb4'.set 2 _
  have ep := hbp3.other (g' := G) (by omega) 2 (.int .u16 (P0 : Nat))
  have ef := hbf3.other (g' := G) (by omega) 2 (.int .u16 (P0 : Nat))
  have hB4 := hB3.setCell (p := ⟨G, 2, none⟩) hle1 (.int .u16 (P0 : Nat))
  have ed : Rd bv (w2.setCell ⟨G, 2, none⟩ (.int .u16 (P0 : Nat))) w.heap.size A c xs := hr.below hB4
  have hsz : w.heap.size ≤ (w2.setCell ⟨G, 2, none⟩ (.int .u16 (P0 : Nat))).heap.size := hB4.size
  have GG := G2 _ (ed.more hsz)
  obtain ⟨c3, c4, c6, c10⟩ := pk_cells ep
  clear G2 ed hsz hd3 hbp3 hbf3 hb4' hB3
  go_wp2_with fail
  generalize w2.setCell ⟨G, 2, none⟩ (.int .u16 (P0 : Nat)) = V4 at e4 ep ef hB4 GG ⊢
  refine GG.out.mono ?_
  rintro e w5 ⟨rfl, hd⟩
  have e5 := e4.next hd.below
  have ef5 := ef.next hd.below
  have hB5 := bnextD hB4 hd
  clear e4 ep ef hB4 GG hd c3 c4 c6 c10 g0 g1 g2 g3 g4 k0 k1 k2 k3 k4
  obtain ⟨g0, g1, g2, g3, g4, k0, k1, k2, k3, k4⟩ := fl_cells e5
  obtain ⟨q0, q1, q2, q3, q4, r0, r1, r2, r3, r4⟩ := fl_cells ef5
  go_wp2_with fail
  simp [bodyPost, results, Try.results27, go_sem, *]
  exact bset5 (hB5.setCell (p := ⟨G, 3, none⟩) hle1 _) (Nat.le_succ _) _ _ _ _ _

set_option maxHeartbeats 1000000 in
theorem fof_ok17 (v0 v1 v2 v5 v9 : Value) (off s d : Int) (A : Option Addr) (c : Nat) (xs : List UInt8) (ho : ((off : Int) != 0) = false) (w : World) (hr : Rd bv w w.heap.size A c xs) (h4 : 4 ≤ xs.length) :
    Calls Try.prog 27 #[.agg #[v0, v1, v2, .bool false, .int .u16 off, v5, .int .u8 17, .int .u32 s, .int .u32 d, v9, .slice A xs.length c]] w fun e w' => e = .returned (.tuple #[.agg #[.int .u32 s, .int .u32 d, .int .u16 ((xs[0].toNat * 256 + xs[1].toNat : Nat) : Int), .int .u16 ((xs[2].toNat * 256 + xs[3].toNat : Nat) : Int), .int .u8 17], .int .i64 0]) ∧ Below w.heap.size w w' := by
  have hlc := hr.len
  have hcc := hr.cap
  have hB := bnextA (bnextA (Below.refl w.heap.size w) (.cells #[v0, v1, v2, .bool false, .int .u16 off, v5, .int .u8 17, .int .u32 s, .int .u32 d, v9, .slice A xs.length c] 36)) (.cells #[.int .u32 0, .int .u32 0, .int .u16 0, .int .u16 0, .int .u8 0] 49)
  have hbp := (Blk.new w #[v0, v1, v2, .bool false, .int .u16 off, v5, .int .u8 17, .int .u32 s, .int .u32 d, v9, .slice A xs.length c] 36).alloc (.cells #[.int .u32 0, .int .u32 0, .int .u16 0, .int .u16 0, .int .u8 0] 49)
  have hbf := Blk.new (w.alloc (.cells #[v0, v1, v2, .bool false, .int .u16 off, v5, .int .u8 17, .int .u32 s, .int .u32 d, v9, .slice A xs.length c] 36)) #[.int .u32 0, .int .u32 0, .int .u16 0, .int .u16 0, .int .u8 0] 49
  rw [show (w.alloc (.cells #[v0, v1, v2, .bool false, .int .u16 off, v5, .int .u8 17, .int .u32 s, .int .u32 d, v9, .slice A xs.length c] 36)).heap.size = w.heap.size + 1 by simp] at hbf
  have hdat := (hr.nextA (.cells #[v0, v1, v2, .bool false, .int .u16 off, v5, .int .u8 17, .int .u32 s, .int .u32 d, v9, .slice A xs.length c] 36)).nextA (.cells #[.int .u32 0, .int .u32 0, .int .u16 0, .int .u16 0, .int .u8 0] 49)
  have HP := fun W => Lib.hid (part_no v0 v1 v2 v5 v9 off 17 s d (.slice A xs.length c) ho W)
  have G0 := fun W (h : Rd bv W W.heap.size A c xs) => Lib.hid (get16_two A c xs 0 W h (by omega))
  have G2 := fun W (h : Rd bv W W.heap.size A c xs) => Lib.hid (get16_two A c xs 2 W h (by omega))
  obtain ⟨P0, hP0⟩ : ∃ P0, xs[0].toNat * 256 + xs[1].toNat = P0 := ⟨_, rfl⟩
  obtain ⟨P1, hP1⟩ : ∃ P1, xs[2].toNat * 256 + xs[3].toNat = P1 := ⟨_, rfl⟩
  simp only [Nat.zero_add, hP0] at G0
  simp only [Nat.reduceAdd, hP1] at G2
  rw [hP0, hP1]
  clear hP0 hP1
  go_enter Try.func27, Try.ntmps27
  go_wp2_with fail
  refine (HP _).out.mono ?_
  rintro e w1 ⟨rfl, hb⟩
  have hbp1 := hbp.next hb
  have hbf1 := hbf.next hb
  have hB1 := bnext hB hb
  have hd1 := hdat.next hb
  clear hbp hbf hB HP hb hdat
  obtain ⟨c3, c4, c6, c10⟩ := pk_cells hbp1
  have c7 := hbp1.cell 7
  have c8 := hbp1.cell 8
  simp only [List.getElem?_cons_succ, List.getElem?_cons_zero] at c7 c8
  have hlt1 := hbp1.lt
  have hlt2 := hbf1.lt
  have hb4 := Blk.new w1 #[.int .u32 s, .int .u32 d, .int .u16 0, .int .u16 0, .int .u8 17] 49
  have hd2 := hd1.nextA (.cells #[.int .u32 s, .int .u32 d, .int .u16 0, .int .u16 0, .int .u8 17] 49)
  have hbp2 := hbp1.alloc (.cells #[.int .u32 s, .int .u32 d, .int .u16 0, .int .u16 0, .int .u8 17] 49)
  have hbf2 := hbf1.alloc (.cells #[.int .u32 s, .int .u32 d, .int .u16 0, .int .u16 0, .int .u8 17] 49)
  have hB2 := bnextA hB1 (.cells #[.int .u32 s, .int .u32 d, .int .u16 0, .int .u16 0, .int .u8 17] 49)
  have hle1 : w.heap.size ≤ w1.heap.size := hB1.size
  go_wp2_with fail
  generalize hG : w1.heap.size = G at hb4 hlt1 hlt2 hle1 ⊢
  generalize w1.alloc (.cells #[.int .u32 s, .int .u32 d, .int .u16 0, .int .u16 0, .int .u8 17] 49) = V at hb4 hd2 hbp2 hbf2 hB2 ⊢
  clear hd1 hbp1 hbf1 hB1 hG c3 c4 c6 c7 c8 c10
  refine (G0 V hd2).out.mono ?_
  rintro e w2 ⟨rfl, hd⟩
  have hb4' : Blk w2 G _ _ := hb4.next hd.below
  have hbp3 := hbp2.next hd.below
  have hbf3 := hbf2.next hd.below
  have hd3 := hd2.next hd.below
  have hB3 := bnextD hB2 hd
  clear hb4 hbp2 hbf2 hd2 hB2 hd G0
  obtain ⟨g0, g1, g2, g3, g4, k0, k1, k2, k3, k4⟩ := fl_cells hb4'
  have e4 : Blk (w2.setCell ⟨G, 2, none⟩ (.int .u16 (P0 : Nat))) G [.int .u32 s, .int .u32 d, .int .u16 (P0 : Nat), .int .u16 0, .int .u8 17] 49 := hb4'.set 2 _
  have ep := hbp3.other (g' := G) (by omega) 2 (.int .u16 (P0 : Nat))
  have ef := hbf3.other (g' := G) (by omega) 2 (.int .u16 (P0 : Nat))
  have hB4 := hB3.setCell (p := ⟨G, 2, none⟩) hle1 (.int .u16 (P0 : Nat))
  have ed : Rd bv (w2.setCell ⟨G, 2, none⟩ (.int .u16 (P0 : Nat))) w.heap.size A c xs := hr.below hB4
  have hsz : w.heap.size ≤ (w2.setCell ⟨G, 2, none⟩ (.int .u16 (P0 : Nat))).heap.size := hB4.size
  have GG := G2 _ (ed.more hsz)
  obtain ⟨c3, c4, c6, c10⟩ := pk_cells ep
  clear G2 ed hsz hd3 hbp3 hbf3 hb4' hB3
  go_wp2_with fail
  generalize w2.setCell ⟨G, 2, none⟩ (.int .u16 (P0 : Nat)) = V4 at e4 ep ef hB4 GG ⊢
  refine GG.out.mono ?_
  rintro e w5 ⟨rfl, hd⟩
  have e5 := e4.next hd.below
  have ef5 := ef.next hd.below
  have hB5 := bnextD hB4 hd
  clear e4 ep ef hB4 GG hd c3 c4 c6 c10 g0 g1 g2 g3 g4 k0 k1 k2 k3 k4
  obtain ⟨g0, g1, g2, g3, g4, k0, k1, k2, k3, k4⟩ := fl_cells e5
  obtain ⟨q0, q1, q2, q3, q4, r0, r1, r2, r3, r4⟩ := fl_cells ef5
  go_wp2_with fail
  simp [bodyPost, results, Try.results27, go_sem, *]
  exact bset5 (hB5.setCell (p := ⟨G, 3, none⟩) hle1 _) (Nat.le_succ _) _ _ _ _ _

end Go.Proofs.Ytpibempfhgaomaa
