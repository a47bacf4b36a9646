/- flow.Of and the reference's Of, where there is a flow. -/
import Derived.Test.YtbcofkiefompgaaFlow1
import Derived.Test.YtbcofkiefompgaaOct1
import Derived.Deep.RegionHeld3
namespace Go.Proofs.Ytbcofkiefompgaa
open Go.RowKit

theorem bset5 {B : Nat} {w0 w : World} (hB : Below B w0 w) {g : Nat} (hg : B ≤ g) (v0 v1 v2 v3 v4 : Value) : Below B w0 (((((w.setCell ⟨g, 0, none⟩ v0).setCell ⟨g, 1, none⟩ v1).setCell ⟨g, 2, none⟩ v2).setCell ⟨g, 3, none⟩ v3).setCell ⟨g, 4, none⟩ v4) :=
  ((((hB.setCell hg v0).setCell hg v1).setCell hg v2).setCell hg v3).setCell hg v4
theorem wrap16_all (x y : UInt8) : IntKind.u16.wrap (IntKind.u16.wrap (IntKind.u16.wrap (x.toNat : Int) * 256) + IntKind.u16.wrap (y.toNat : Int)) = ((x.toNat * 256 + y.toNat : Nat) : Int) := by
  have := x.toNat_lt
  have := y.toNat_lt
  simp only [IntKind.wrap_u16]
  omega
theorem get16_two (A : Option Addr) (c : Nat) (xs : List UInt8) (k : Nat) (w : World) (hr : Rd bv w w.heap.size A c xs) (hk : k + 2 ≤ xs.length) :
    Calls Try.prog 68 #[.slice A xs.length c, .int .i64 k] w fun e w' => e = .returned (.tuple #[.int .u16 ((xs[k].toNat * 256 + xs[k + 1].toNat : Nat) : Int), .bool true]) ∧ Drawn w w' := by
  have := get16_yes A c xs k w _ hr hk
  rw [take_two xs k hk, beN_two] at this
  exact this

set_option maxHeartbeats 1000000 in
theorem fof_ok6 (v0 v1 v2 v5 v9 : Value) (off s d : Int) (A : Option Addr) (c : Nat) (xs : List UInt8) (ho : ((off : Int) != 0) = false) (w : World) (hr : Rd bv w w.heap.size A c xs) (h4 : 4 ≤ xs.length) :
    Calls Try.prog 21 #[.agg #[v0, v1, v2, .bool false, .int .u16 off, v5, .int .u8 6, .int .u32 s, .int .u32 d, v9, .slice A xs.length c]] w fun e w' => e = .returned (.tuple #[.agg #[.int .u32 s, .int .u32 d, .int .u16 ((xs[0].toNat * 256 + xs[1].toNat : Nat) : Int), .int .u16 ((xs[2].toNat * 256 + xs[3].toNat : Nat) : Int), .int .u8 6], .int .i64 0]) ∧ Below w.heap.size w w' := by
  have hlc := hr.len
  have hcc := hr.cap
  have hB := bnextA (bnextA (Below.refl w.heap.size w) (.cells #[v0, v1, v2, .bool false, .int .u16 off, v5, .int .u8 6, .int .u32 s, .int .u32 d, v9, .slice A xs.length c] 34)) (.cells #[.int .u32 0, .int .u32 0, .int .u16 0, .int .u16 0, .int .u8 0] 37)
  have hbp := (Blk.new w #[v0, v1, v2, .bool false, .int .u16 off, v5, .int .u8 6, .int .u32 s, .int .u32 d, v9, .slice A xs.length c] 34).alloc (.cells #[.int .u32 0, .int .u32 0, .int .u16 0, .int .u16 0, .int .u8 0] 37)
  have hbf := Blk.new (w.alloc (.cells #[v0, v1, v2, .bool false, .int .u16 off, v5, .int .u8 6, .int .u32 s, .int .u32 d, v9, .slice A xs.length c] 34)) #[.int .u32 0, .int .u32 0, .int .u16 0, .int .u16 0, .int .u8 0] 37
  rw [show (w.alloc (.cells #[v0, v1, v2, .bool false, .int .u16 off, v5, .int .u8 6, .int .u32 s, .int .u32 d, v9, .slice A xs.length c] 34)).heap.size = w.heap.size + 1 by simp] at hbf
  have hdat := (hr.nextA (.cells #[v0, v1, v2, .bool false, .int .u16 off, v5, .int .u8 6, .int .u32 s, .int .u32 d, v9, .slice A xs.length c] 34)).nextA (.cells #[.int .u32 0, .int .u32 0, .int .u16 0, .int .u16 0, .int .u8 0] 37)
  have HP := fun W => Lib.hid (part_no v0 v1 v2 v5 v9 off 6 s d (.slice A xs.length c) ho W)
  have G0 := fun W (h : Rd bv W W.heap.size A c xs) => Lib.hid (get16_two A c xs 0 W h (by omega))
  have G2 := fun W (h : Rd bv W W.heap.size A c xs) => Lib.hid (get16_two A c xs 2 W h (by omega))
  obtain ⟨P0, hP0⟩ : ∃ P0, xs[0].toNat * 256 + xs[1].toNat = P0 := ⟨_, rfl⟩
  obtain ⟨P1, hP1⟩ : ∃ P1, xs[2].toNat * 256 + xs[3].toNat = P1 := ⟨_, rfl⟩
  simp only [Nat.zero_add, hP0] at G0
  simp only [Nat.reduceAdd, hP1] at G2
  rw [hP0, hP1]
  clear hP0 hP1
  go_enter Try.func21, Try.ntmps21
  go_wp2_with fail
  refine (HP _).out.mono ?_
  rintro e w1 ⟨rfl, hb⟩
  have hbp1 := hbp.next hb
  have hbf1 := hbf.next hb
  have hB1 := bnext hB hb
  have hd1 := hdat.next hb
  clear hbp hbf hB HP hb hdat
  obtain ⟨c3, c4, c6, c10⟩ := pk_cells hbp1
  have c7 := hbp1.cell 7
  have c8 := hbp1.cell 8
  simp only [List.getElem?_cons_succ, List.getElem?_cons_zero] at c7 c8
  have hlt1 := hbp1.lt
  have hlt2 := hbf1.lt
  have hb4 := Blk.new w1 #[.int .u32 s, .int .u32 d, .int .u16 0, .int .u16 0, .int .u8 6] 37
  have hd2 := hd1.nextA (.cells #[.int .u32 s, .int .u32 d, .int .u16 0, .int .u16 0, .int .u8 6] 37)
  have hbp2 := hbp1.alloc (.cells #[.int .u32 s, .int .u32 d, .int .u16 0, .int .u16 0, .int .u8 6] 37)
  have hbf2 := hbf1.alloc (.cells #[.int .u32 s, .int .u32 d, .int .u16 0, .int .u16 0, .int .u8 6] 37)
  have hB2 := bnextA hB1 (.cells #[.int .u32 s, .int .u32 d, .int .u16 0, .int .u16 0, .int .u8 6] 37)
  have hle1 : w.heap.size ≤ w1.heap.size := hB1.size
  go_wp2_with fail
  generalize hG : w1.heap.size = G at hb4 hlt1 hlt2 hle1 ⊢
  generalize w1.alloc (.cells #[.int .u32 s, .int .u32 d, .int .u16 0, .int .u16 0, .int .u8 6] 37) = V at hb4 hd2 hbp2 hbf2 hB2 ⊢
  clear hd1 hbp1 hbf1 hB1 hG c3 c4 c6 c7 c8 c10
  refine (G0 V hd2).out.mono ?_
  rintro e w2 ⟨rfl, hd⟩
  have hb4' : Blk w2 G _ _ := hb4.next hd.below
  have hbp3 := hbp2.next hd.below
  have hbf3 := hbf2.next hd.below
  have hd3 := hd2.next hd.below
  have hB3 := bnextD hB2 hd
  clear hb4 hbp2 hbf2 hd2 hB2 hd G0
  obtain ⟨g0, g1, g2, g3, g4, k0, k1, k2, k3, k4⟩ := fl_cells hb4'
  have e4 : Blk (w2.setCell ⟨G, 2, none⟩ (.int .u16 (P0 : Nat))) G [.int .u32 s, .int .u32 d, .int .u16 (P0 : Nat), .int .u16 0, .int .u8 6] 37 := hb4'.set 2 _
  have ep := hbp3.other (g' := G) (by omega) 2 (.int .u16 (P0 : Nat))
  have ef := hbf3.other (g' := G) (by omega) 2 (.int .u16 (P0 : Nat))
  have hB4 := hB3.setCell (p := ⟨G, 2, none⟩) hle1 (.int .u16 (P0 : Nat))
  have ed : Rd bv (w2.setCell ⟨G, 2, none⟩ (.int .u16 (P0 : Nat))) w.heap.size A c xs := hr.below hB4
  have hsz : w.heap.size ≤ (w2.setCell ⟨G, 2, none⟩ (.int .u16 (P0 : Nat))).heap.size := hB4.size
  have GG := G2 _ (ed.more hsz)
  obtain ⟨c3, c4, c6, c10⟩ := pk_cells ep
  clear G2 ed hsz hd3 hbp3 hbf3 hb4' hB3
  go_wp2_with fail
  generalize w2.setCell ⟨G, 2, none⟩ (.int .u16 (P0 : Nat)) = V4 at e4 ep ef hB4 GG ⊢
  refine GG.out.mono ?_
  rintro e w5 ⟨rfl, hd⟩
  have e5 := e4.next hd.below
  have ef5 := ef.next hd.below
  have hB5 := bnextD hB4 hd
  clear e4 ep ef hB4 GG hd c3 c4 c6 c10 g0 g1 g2 g3 g4 k0 k1 k2 k3 k4
  obtain ⟨g0, g1, g2, g3, g4, k0, k1, k2, k3, k4⟩ := fl_cells e5
  obtain ⟨q0, q1, q2, q3, q4, r0, r1, r2, r3, r4⟩ := fl_cells ef5
  go_wp2_with fail
  simp [bodyPost, results, Try.results21, go_sem, *]
  exact bset5 (hB5.setCell (p := ⟨G, 3, none⟩) hle1 _) (Nat.le_succ _) _ _ _ _ _

set_option maxRecDepth 4000 in
set_option maxHeartbeats 1000000 in
theorem rof_ok6 (v0 v1 v2 v5 v9 : Value) (off s d : Int) (A : Option Addr) (c : Nat) (xs : List UInt8) (ho : ((off : Int) != 0) = false) (w : World) (hr : Rd bv w w.heap.size A c xs) (h4 : 4 ≤ xs.length) :
    Calls Try.prog 22 #[.agg #[v0, v1, v2, .bool false, .int .u16 off, v5, .int .u8 6, .int .u32 s, .int .u32 d, v9, .slice A xs.length c]] w fun e w' => e = .returned (.tuple #[.agg #[.int .u32 s, .int .u32 d, .int .u16 ((xs[0].toNat * 256 + xs[1].toNat : Nat) : Int), .int .u16 ((xs[2].toNat * 256 + xs[3].toNat : Nat) : Int), .int .u8 6], .int .i64 0]) ∧ Below w.heap.size w w' := by
  have hlc := hr.len
  have hcc := hr.cap
  have hB := bnextA (bnextA (bnextA (Below.refl w.heap.size w) (.cells #[v0, v1, v2, .bool false, .int .u16 off, v5, .int .u8 6, .int .u32 s, .int .u32 d, v9, .slice A xs.length c] 34)) (.cells #[.int .u32 0, .int .u32 0, .int .u16 0, .int .u16 0, .int .u8 0] 37)) (.cells #[.int .u32 s, .int .u32 d, .int .u16 0, .int .u16 0, .int .u8 6] 37)
  have hbp := ((Blk.new w #[v0, v1, v2, .bool false, .int .u16 off, v5, .int .u8 6, .int .u32 s, .int .u32 d, v9, .slice A xs.length c] 34).alloc (.cells #[.int .u32 0, .int .u32 0, .int .u16 0, .int .u16 0, .int .u8 0] 37)).alloc (.cells #[.int .u32 s, .int .u32 d, .int .u16 0, .int .u16 0, .int .u8 6] 37)
  have hbf := (Blk.new (w.alloc (.cells #[v0, v1, v2, .bool false, .int .u16 off, v5, .int .u8 6, .int .u32 s, .int .u32 d, v9, .slice A xs.length c] 34)) #[.int .u32 0, .int .u32 0, .int .u16 0, .int .u16 0, .int .u8 0] 37).alloc (.cells #[.int .u32 s, .int .u32 d, .int .u16 0, .int .u16 0, .int .u8 6] 37)
  have hb4 := Blk.new ((w.alloc (.cells #[v0, v1, v2, .bool false, .int .u16 off, v5, .int .u8 6, .int .u32 s, .int .u32 d, v9, .slice A xs.length c] 34)).alloc (.cells #[.int .u32 0, .int .u32 0, .int .u16 0, .int .u16 0, .int .u8 0] 37)) #[.int .u32 s, .int .u32 d, .int .u16 0, .int .u16 0, .int .u8 6] 37
  rw [show (w.alloc (.cells #[v0, v1, v2, .bool false, .int .u16 off, v5, .int .u8 6, .int .u32 s, .int .u32 d, v9, .slice A xs.length c] 34)).heap.size = w.heap.size + 1 by simp] at hbf
  rw [show ((w.alloc (.cells #[v0, v1, v2, .bool false, .int .u16 off, v5, .int .u8 6, .int .u32 s, .int .u32 d, v9, .slice A xs.length c] 34)).alloc (.cells #[.int .u32 0, .int .u32 0, .int .u16 0, .int .u16 0, .int .u8 0] 37)).heap.size = w.heap.size + 2 by simp] at hb4
  obtain ⟨bl, bo, rfl, hbl, hcell⟩ := byt_at hr (k := 0) (by omega)
  have x0 := hcell 0 (by omega)
  have x1 := hcell 1 (by omega)
  have x2 := hcell 2 (by omega)
  have x3 := hcell 3 (by omega)
  clear hcell hr
  generalize xs[0] = y0 at x0 ⊢
  generalize xs[1] = y1 at x1 ⊢
  generalize xs[2] = y2 at x2 ⊢
  generalize xs[3] = y3 at x3 ⊢
  have a0 := wrap16_all y0 y1
  have a2 := wrap16_all y2 y3
  generalize y0.toNat * 256 + y1.toNat = P0 at a0 ⊢
  generalize y2.toNat * 256 + y3.toNat = P1 at a2 ⊢
  have HA0 := Lib.hid a0
  have HA2 := Lib.hid a2
  have HX := Lib.hid (And.intro x0 (And.intro x1 (And.intro x2 x3)))
  clear a0 a2 x0 x1 x2 x3
  go_enter Try.func22, Try.ntmps22
  go_wp2_with fail
  generalize ((w.alloc (.cells #[v0, v1, v2, .bool false, .int .u16 off, v5, .int .u8 6, .int .u32 s, .int .u32 d, v9, .slice (some ⟨bl, bo, none⟩) xs.length c] 34)).alloc (.cells #[.int .u32 0, .int .u32 0, .int .u16 0, .int .u16 0, .int .u8 0] 37)).alloc (.cells #[.int .u32 s, .int .u32 d, .int .u16 0, .int .u16 0, .int .u8 6] 37) = V at hB hbp hbf hb4 ⊢
  obtain ⟨x0, x1, x2, x3⟩ := HX.out
  have z0 := (hB.cell (p := ⟨bl, bo + 0, none⟩) hbl).trans x0
  have z1 := (hB.cell (p := ⟨bl, bo + 1, none⟩) hbl).trans x1
  have z2 := (hB.cell (p := ⟨bl, bo + 2, none⟩) hbl).trans x2
  have z3 := (hB.cell (p := ⟨bl, bo + 3, none⟩) hbl).trans x3
  rw [Nat.add_zero] at z0
  clear x0 x1 x2 x3
  obtain ⟨c3, c4, c6, c10⟩ := pk_cells hbp
  obtain ⟨g0, g1, g2, g3, g4, k0, k1, k2, k3, k4⟩ := fl_cells hb4
  have c10d : V.drew.cell? ⟨w.heap.size, 10, none⟩ = _ := c10
  have z0d : V.drew.cell? ⟨bl, bo, none⟩ = _ := z0
  have z1d : V.drew.cell? ⟨bl, bo + 1, none⟩ = _ := z1
  have g2d : V.drew.cell? ⟨w.heap.size + 2, 2, none⟩ = _ := g2
  have k2d : V.drew.frozen? ⟨w.heap.size + 2, 2, none⟩ = _ := k2
  go_region
  have a0 := HA0.out
  rw [a0]
  have g2' : w.heap.size + 1 + 1 = w.heap.size + 2 := rfl
  rw [g2']
  clear a0 HA0
  have e4 : Blk (V.setCell ⟨w.heap.size + 2, 2, none⟩ (.int .u16 (P0 : Nat))).drew (w.heap.size + 2) [.int .u32 s, .int .u32 d, .int .u16 (P0 : Nat), .int .u16 0, .int .u8 6] 37 := hb4.set 2 _
  have ep : Blk (V.setCell ⟨w.heap.size + 2, 2, none⟩ (.int .u16 (P0 : Nat))).drew w.heap.size _ 34 := hbp.other (g' := w.heap.size + 2) (by omega) 2 (.int .u16 (P0 : Nat))
  have ef : Blk (V.setCell ⟨w.heap.size + 2, 2, none⟩ (.int .u16 (P0 : Nat))).drew (w.heap.size + 1) _ 37 := hbf.other (g' := w.heap.size + 2) (by omega) 2 (.int .u16 (P0 : Nat))
  have hB4 : Below w.heap.size w (V.setCell ⟨w.heap.size + 2, 2, none⟩ (.int .u16 (P0 : Nat))).drew := (hB.setCell (p := ⟨w.heap.size + 2, 2, none⟩) (by show w.heap.size ≤ w.heap.size + 2; omega) _).drew
  clear c3 c4 c6 c10 g0 g1 g2 g3 g4 k0 k1 k2 k3 k4 c10d z0d z1d g2d k2d z0 z1 z2 z3 hbp hbf hb4 hB
  generalize (V.setCell ⟨w.heap.size + 2, 2, none⟩ (.int .u16 (P0 : Nat))).drew = V4 at e4 ep ef hB4 ⊢
  obtain ⟨-, -, x2, x3⟩ := HX.out
  have z2 := (hB4.cell (p := ⟨bl, bo + 2, none⟩) hbl).trans x2
  have z3 := (hB4.cell (p := ⟨bl, bo + 3, none⟩) hbl).trans x3
  obtain ⟨c3, c4, c6, c10⟩ := pk_cells ep
  obtain ⟨g0, g1, g2, g3, g4, k0, k1, k2, k3, k4⟩ := fl_cells e4
  have c10d : V4.drew.cell? ⟨w.heap.size, 10, none⟩ = _ := c10
  have z2d : V4.drew.cell? ⟨bl, bo + 2, none⟩ = _ := z2
  have z3d : V4.drew.cell? ⟨bl, bo + 3, none⟩ = _ := z3
  have g3d : V4.drew.cell? ⟨w.heap.size + 2, 3, none⟩ = _ := g3
  have k3d : V4.drew.frozen? ⟨w.heap.size + 2, 3, none⟩ = _ := k3
  go_wp2_with fail
  go_region
  have a2 := HA2.out
  rw [a2]
  clear a2 HA2
  have e5 : Blk (V4.setCell ⟨w.heap.size + 2, 3, none⟩ (.int .u16 (P1 : Nat))).drew (w.heap.size + 2) [.int .u32 s, .int .u32 d, .int .u16 (P0 : Nat), .int .u16 (P1 : Nat), .int .u8 6] 37 := e4.set 3 _
  have ef5 : Blk (V4.setCell ⟨w.heap.size + 2, 3, none⟩ (.int .u16 (P1 : Nat))).drew (w.heap.size + 1) _ 37 := ef.other (g' := w.heap.size + 2) (by omega) 3 (.int .u16 (P1 : Nat))
  have hB5 : Below w.heap.size w (V4.setCell ⟨w.heap.size + 2, 3, none⟩ (.int .u16 (P1 : Nat))).drew := (hB4.setCell (p := ⟨w.heap.size + 2, 3, none⟩) (by show w.heap.size ≤ w.heap.size + 2; omega) _).drew
  clear c3 c4 c6 c10 g0 g1 g2 g3 g4 k0 k1 k2 k3 k4 c10d z2d z3d g3d k3d z2 z3 e4 ep ef hB4
  generalize (V4.setCell ⟨w.heap.size + 2, 3, none⟩ (.int .u16 (P1 : Nat))).drew = V5 at e5 ef5 hB5 ⊢
  obtain ⟨g0, g1, g2, g3, g4, k0, k1, k2, k3, k4⟩ := fl_cells e5
  obtain ⟨r0, r1, r2, r3, r4, s0, s1, s2, s3, s4⟩ := fl_cells ef5
  go_wp2_with fail
  simp [bodyPost, results, Try.results22, go_sem, *]

  exact bset5 hB5 (Nat.le_succ _) _ _ _ _ _

set_option maxHeartbeats 1000000 in
theorem fof_ok17 (v0 v1 v2 v5 v9 : Value) (off s d : Int) (A : Option Addr) (c : Nat) (xs : List UInt8) (ho : ((off : Int) != 0) = false) (w : World) (hr : Rd bv w w.heap.size A c xs) (h4 : 4 ≤ xs.length) :
    Calls Try.prog 21 #[.agg #[v0, v1, v2, .bool false, .int .u16 off, v5, .int .u8 17, .int .u32 s, .int .u32 d, v9, .slice A xs.length c]] w fun e w' => e = .returned (.tuple #[.agg #[.int .u32 s, .int .u32 d, .int .u16 ((xs[0].toNat * 256 + xs[1].toNat : Nat) : Int), .int .u16 ((xs[2].toNat * 256 + xs[3].toNat : Nat) : Int), .int .u8 17], .int .i64 0]) ∧ Below w.heap.size w w' := by
  have hlc := hr.len
  have hcc := hr.cap
  have hB := bnextA (bnextA (Below.refl w.heap.size w) (.cells #[v0, v1, v2, .bool false, .int .u16 off, v5, .int .u8 17, .int .u32 s, .int .u32 d, v9, .slice A xs.length c] 34)) (.cells #[.int .u32 0, .int .u32 0, .int .u16 0, .int .u16 0, .int .u8 0] 37)
  have hbp := (Blk.new w #[v0, v1, v2, .bool false, .int .u16 off, v5, .int .u8 17, .int .u32 s, .int .u32 d, v9, .slice A xs.length c] 34).alloc (.cells #[.int .u32 0, .int .u32 0, .int .u16 0, .int .u16 0, .int .u8 0] 37)
  have hbf := Blk.new (w.alloc (.cells #[v0, v1, v2, .bool false, .int .u16 off, v5, .int .u8 17, .int .u32 s, .int .u32 d, v9, .slice A xs.length c] 34)) #[.int .u32 0, .int .u32 0, .int .u16 0, .int .u16 0, .int .u8 0] 37
  rw [show (w.alloc (.cells #[v0, v1, v2, .bool false, .int .u16 off, v5, .int .u8 17, .int .u32 s, .int .u32 d, v9, .slice A xs.length c] 34)).heap.size = w.heap.size + 1 by simp] at hbf
  have hdat := (hr.nextA (.cells #[v0, v1, v2, .bool false, .int .u16 off, v5, .int .u8 17, .int .u32 s, .int .u32 d, v9, .slice A xs.length c] 34)).nextA (.cells #[.int .u32 0, .int .u32 0, .int .u16 0, .int .u16 0, .int .u8 0] 37)
  have HP := fun W => Lib.hid (part_no v0 v1 v2 v5 v9 off 17 s d (.slice A xs.length c) ho W)
  have G0 := fun W (h : Rd bv W W.heap.size A c xs) => Lib.hid (get16_two A c xs 0 W h (by omega))
  have G2 := fun W (h : Rd bv W W.heap.size A c xs) => Lib.hid (get16_two A c xs 2 W h (by omega))
  obtain ⟨P0, hP0⟩ : ∃ P0, xs[0].toNat * 256 + xs[1].toNat = P0 := ⟨_, rfl⟩
  obtain ⟨P1, hP1⟩ : ∃ P1, xs[2].toNat * 256 + xs[3].toNat = P1 := ⟨_, rfl⟩
  simp only [Nat.zero_add, hP0] at G0
  simp only [Nat.reduceAdd, hP1] at G2
  rw [hP0, hP1]
  clear hP0 hP1
  go_enter Try.func21, Try.ntmps21
  go_wp2_with fail
  refine (HP _).out.mono ?_
  rintro e w1 ⟨rfl, hb⟩
  have hbp1 := hbp.next hb
  have hbf1 := hbf.next hb
  have hB1 := bnext hB hb
  have hd1 := hdat.next hb
  clear hbp hbf hB HP hb hdat
  obtain ⟨c3, c4, c6, c10⟩ := pk_cells hbp1
  have c7 := hbp1.cell 7
  have c8 := hbp1.cell 8
  simp only [List.getElem?_cons_succ, List.getElem?_cons_zero] at c7 c8
  have hlt1 := hbp1.lt
  have hlt2 := hbf1.lt
  have hb4 := Blk.new w1 #[.int .u32 s, .int .u32 d, .int .u16 0, .int .u16 0, .int .u8 17] 37
  have hd2 := hd1.nextA (.cells #[.int .u32 s, .int .u32 d, .int .u16 0, .int .u16 0, .int .u8 17] 37)
  have hbp2 := hbp1.alloc (.cells #[.int .u32 s, .int .u32 d, .int .u16 0, .int .u16 0, .int .u8 17] 37)
  have hbf2 := hbf1.alloc (.cells #[.int .u32 s, .int .u32 d, .int .u16 0, .int .u16 0, .int .u8 17] 37)
  have hB2 := bnextA hB1 (.cells #[.int .u32 s, .int .u32 d, .int .u16 0, .int .u16 0, .int .u8 17] 37)
  have hle1 : w.heap.size ≤ w1.heap.size := hB1.size
  go_wp2_with fail
  generalize hG : w1.heap.size = G at hb4 hlt1 hlt2 hle1 ⊢
  generalize w1.alloc (.cells #[.int .u32 s, .int .u32 d, .int .u16 0, .int .u16 0, .int .u8 17] 37) = V at hb4 hd2 hbp2 hbf2 hB2 ⊢
  clear hd1 hbp1 hbf1 hB1 hG c3 c4 c6 c7 c8 c10
  refine (G0 V hd2).out.mono ?_
  rintro e w2 ⟨rfl, hd⟩
  have hb4' : Blk w2 G _ _ := hb4.next hd.below
  have hbp3 := hbp2.next hd.below
  have hbf3 := hbf2.next hd.below
  have hd3 := hd2.next hd.below
  have hB3 := bnextD hB2 hd
  clear hb4 hbp2 hbf2 hd2 hB2 hd G0
  obtain ⟨g0, g1, g2, g3, g4, k0, k1, k2, k3, k4⟩ := fl_cells hb4'
  have e4 : Blk (w2.setCell ⟨G, 2, none⟩ (.int .u16 (P0 : Nat))) G [.int .u32 s, .int .u32 d, .int .u16 (P0 : Nat), .int .u16 0, .int .u8 17] 37 := hb4'.set 2 _
  have ep := hbp3.other (g' := G) (by omega) 2 (.int .u16 (P0 : Nat))
  have ef := hbf3.other (g' := G) (by omega) 2 (.int .u16 (P0 : Nat))
  have hB4 := hB3.setCell (p := ⟨G, 2, none⟩) hle1 (.int .u16 (P0 : Nat))
  have ed : Rd bv (w2.setCell ⟨G, 2, none⟩ (.int .u16 (P0 : Nat))) w.heap.size A c xs := hr.below hB4
  have hsz : w.heap.size ≤ (w2.setCell ⟨G, 2, none⟩ (.int .u16 (P0 : Nat))).heap.size := hB4.size
  have GG := G2 _ (ed.more hsz)
  obtain ⟨c3, c4, c6, c10⟩ := pk_cells ep
  clear G2 ed hsz hd3 hbp3 hbf3 hb4' hB3
  go_wp2_with fail
  generalize w2.setCell ⟨G, 2, none⟩ (.int .u16 (P0 : Nat)) = V4 at e4 ep ef hB4 GG ⊢
  refine GG.out.mono ?_
  rintro e w5 ⟨rfl, hd⟩
  have e5 := e4.next hd.below
  have ef5 := ef.next hd.below
  have hB5 := bnextD hB4 hd
  clear e4 ep ef hB4 GG hd c3 c4 c6 c10 g0 g1 g2 g3 g4 k0 k1 k2 k3 k4
  obtain ⟨g0, g1, g2, g3, g4, k0, k1, k2, k3, k4⟩ := fl_cells e5
  obtain ⟨q0, q1, q2, q3, q4, r0, r1, r2, r3, r4⟩ := fl_cells ef5
  go_wp2_with fail
  simp [bodyPost, results, Try.results21, go_sem, *]
  exact bset5 (hB5.setCell (p := ⟨G, 3, none⟩) hle1 _) (Nat.le_succ _) _ _ _ _ _

set_option maxRecDepth 4000 in
set_option maxHeartbeats 1000000 in
theorem rof_ok17 (v0 v1 v2 v5 v9 : Value) (off s d : Int) (A : Option Addr) (c : Nat) (xs : List UInt8) (ho : ((off : Int) != 0) = false) (w : World) (hr : Rd bv w w.heap.size A c xs) (h4 : 4 ≤ xs.length) :
    Calls Try.prog 22 #[.agg #[v0, v1, v2, .bool false, .int .u16 off, v5, .int .u8 17, .int .u32 s, .int .u32 d, v9, .slice A xs.length c]] w fun e w' => e = .returned (.tuple #[.agg #[.int .u32 s, .int .u32 d, .int .u16 ((xs[0].toNat * 256 + xs[1].toNat : Nat) : Int), .int .u16 ((xs[2].toNat * 256 + xs[3].toNat : Nat) : Int), .int .u8 17], .int .i64 0]) ∧ Below w.heap.size w w' := by
  have hlc := hr.len
  have hcc := hr.cap
  have hB := bnextA (bnextA (bnextA (Below.refl w.heap.size w) (.cells #[v0, v1, v2, .bool false, .int .u16 off, v5, .int .u8 17, .int .u32 s, .int .u32 d, v9, .slice A xs.length c] 34)) (.cells #[.int .u32 0, .int .u32 0, .int .u16 0, .int .u16 0, .int .u8 0] 37)) (.cells #[.int .u32 s, .int .u32 d, .int .u16 0, .int .u16 0, .int .u8 17] 37)
  have hbp := ((Blk.new w #[v0, v1, v2, .bool false, .int .u16 off, v5, .int .u8 17, .int .u32 s, .int .u32 d, v9, .slice A xs.length c] 34).alloc (.cells #[.int .u32 0, .int .u32 0, .int .u16 0, .int .u16 0, .int .u8 0] 37)).alloc (.cells #[.int .u32 s, .int .u32 d, .int .u16 0, .int .u16 0, .int .u8 17] 37)
  have hbf := (Blk.new (w.alloc (.cells #[v0, v1, v2, .bool false, .int .u16 off, v5, .int .u8 17, .int .u32 s, .int .u32 d, v9, .slice A xs.length c] 34)) #[.int .u32 0, .int .u32 0, .int .u16 0, .int .u16 0, .int .u8 0] 37).alloc (.cells #[.int .u32 s, .int .u32 d, .int .u16 0, .int .u16 0, .int .u8 17] 37)
  have hb4 := Blk.new ((w.alloc (.cells #[v0, v1, v2, .bool false, .int .u16 off, v5, .int .u8 17, .int .u32 s, .int .u32 d, v9, .slice A xs.length c] 34)).alloc (.cells #[.int .u32 0, .int .u32 0, .int .u16 0, .int .u16 0, .int .u8 0] 37)) #[.int .u32 s, .int .u32 d, .int .u16 0, .int .u16 0, .int .u8 17] 37
  rw [show (w.alloc (.cells #[v0, v1, v2, .bool false, .int .u16 off, v5, .int .u8 17, .int .u32 s, .int .u32 d, v9, .slice A xs.length c] 34)).heap.size = w.heap.size + 1 by simp] at hbf
  rw [show ((w.alloc (.cells #[v0, v1, v2, .bool false, .int .u16 off, v5, .int .u8 17, .int .u32 s, .int .u32 d, v9, .slice A xs.length c] 34)).alloc (.cells #[.int .u32 0, .int .u32 0, .int .u16 0, .int .u16 0, .int .u8 0] 37)).heap.size = w.heap.size + 2 by simp] at hb4
  obtain ⟨bl, bo, rfl, hbl, hcell⟩ := byt_at hr (k := 0) (by omega)
  have x0 := hcell 0 (by omega)
  have x1 := hcell 1 (by omega)
  have x2 := hcell 2 (by omega)
  have x3 := hcell 3 (by omega)
  clear hcell hr
  generalize xs[0] = y0 at x0 ⊢
  generalize xs[1] = y1 at x1 ⊢
  generalize xs[2] = y2 at x2 ⊢
  generalize xs[3] = y3 at x3 ⊢
  have a0 := wrap16_all y0 y1
  have a2 := wrap16_all y2 y3
  generalize y0.toNat * 256 + y1.toNat = P0 at a0 ⊢
  generalize y2.toNat * 256 + y3.toNat = P1 at a2 ⊢
  have HA0 := Lib.hid a0
  have HA2 := Lib.hid a2
  have HX := Lib.hid (And.intro x0 (And.intro x1 (And.intro x2 x3)))
  clear a0 a2 x0 x1 x2 x3
  go_enter Try.func22, Try.ntmps22
  go_wp2_with fail
  generalize ((w.alloc (.cells #[v0, v1, v2, .bool false, .int .u16 off, v5, .int .u8 17, .int .u32 s, .int .u32 d, v9, .slice (some ⟨bl, bo, none⟩) xs.length c] 34)).alloc (.cells #[.int .u32 0, .int .u32 0, .int .u16 0, .int .u16 0, .int .u8 0] 37)).alloc (.cells #[.int .u32 s, .int .u32 d, .int .u16 0, .int .u16 0, .int .u8 17] 37) = V at hB hbp hbf hb4 ⊢
  obtain ⟨x0, x1, x2, x3⟩ := HX.out
  have z0 := (hB.cell (p := ⟨bl, bo + 0, none⟩) hbl).trans x0
  have z1 := (hB.cell (p := ⟨bl, bo + 1, none⟩) hbl).trans x1
  have z2 := (hB.cell (p := ⟨bl, bo + 2, none⟩) hbl).trans x2
  have z3 := (hB.cell (p := ⟨bl, bo + 3, none⟩) hbl).trans x3
  rw [Nat.add_zero] at z0
  clear x0 x1 x2 x3
  obtain ⟨c3, c4, c6, c10⟩ := pk_cells hbp
  obtain ⟨g0, g1, g2, g3, g4, k0, k1, k2, k3, k4⟩ := fl_cells hb4
  have c10d : V.drew.cell? ⟨w.heap.size, 10, none⟩ = _ := c10
  have z0d : V.drew.cell? ⟨bl, bo, none⟩ = _ := z0
  have z1d : V.drew.cell? ⟨bl, bo + 1, none⟩ = _ := z1
  have g2d : V.drew.cell? ⟨w.heap.size + 2, 2, none⟩ = _ := g2
  have k2d : V.drew.frozen? ⟨w.heap.size + 2, 2, none⟩ = _ := k2
  go_region
  have a0 := HA0.out
  rw [a0]
  have g2' : w.heap.size + 1 + 1 = w.heap.size + 2 := rfl
  rw [g2']
  clear a0 HA0
  have e4 : Blk (V.setCell ⟨w.heap.size + 2, 2, none⟩ (.int .u16 (P0 : Nat))).drew (w.heap.size + 2) [.int .u32 s, .int .u32 d, .int .u16 (P0 : Nat), .int .u16 0, .int .u8 17] 37 := hb4.set 2 _
  have ep : Blk (V.setCell ⟨w.heap.size + 2, 2, none⟩ (.int .u16 (P0 : Nat))).drew w.heap.size _ 34 := hbp.other (g' := w.heap.size + 2) (by omega) 2 (.int .u16 (P0 : Nat))
  have ef : Blk (V.setCell ⟨w.heap.size + 2, 2, none⟩ (.int .u16 (P0 : Nat))).drew (w.heap.size + 1) _ 37 := hbf.other (g' := w.heap.size + 2) (by omega) 2 (.int .u16 (P0 : Nat))
  have hB4 : Below w.heap.size w (V.setCell ⟨w.heap.size + 2, 2, none⟩ (.int .u16 (P0 : Nat))).drew := (hB.setCell (p := ⟨w.heap.size + 2, 2, none⟩) (by show w.heap.size ≤ w.heap.size + 2; omega) _).drew
  clear c3 c4 c6 c10 g0 g1 g2 g3 g4 k0 k1 k2 k3 k4 c10d z0d z1d g2d k2d z0 z1 z2 z3 hbp hbf hb4 hB
  generalize (V.setCell ⟨w.heap.size + 2, 2, none⟩ (.int .u16 (P0 : Nat))).drew = V4 at e4 ep ef hB4 ⊢
  obtain ⟨-, -, x2, x3⟩ := HX.out
  have z2 := (hB4.cell (p := ⟨bl, bo + 2, none⟩) hbl).trans x2
  have z3 := (hB4.cell (p := ⟨bl, bo + 3, none⟩) hbl).trans x3
  obtain ⟨c3, c4, c6, c10⟩ := pk_cells ep
  obtain ⟨g0, g1, g2, g3, g4, k0, k1, k2, k3, k4⟩ := fl_cells e4
  have c10d : V4.drew.cell? ⟨w.heap.size, 10, none⟩ = _ := c10
  have z2d : V4.drew.cell? ⟨bl, bo + 2, none⟩ = _ := z2
  have z3d : V4.drew.cell? ⟨bl, bo + 3, none⟩ = _ := z3
  have g3d : V4.drew.cell? ⟨w.heap.size + 2, 3, none⟩ = _ := g3
  have k3d : V4.drew.frozen? ⟨w.heap.size + 2, 3, none⟩ = _ := k3
  go_wp2_with fail
  go_region
  have a2 := HA2.out
  rw [a2]
  clear a2 HA2
  have e5 : Blk (V4.setCell ⟨w.heap.size + 2, 3, none⟩ (.int .u16 (P1 : Nat))).drew (w.heap.size + 2) [.int .u32 s, .int .u32 d, .int .u16 (P0 : Nat), .int .u16 (P1 : Nat), .int .u8 17] 37 := e4.set 3 _
  have ef5 : Blk (V4.setCell ⟨w.heap.size + 2, 3, none⟩ (.int .u16 (P1 : Nat))).drew (w.heap.size + 1) _ 37 := ef.other (g' := w.heap.size + 2) (by omega) 3 (.int .u16 (P1 : Nat))
  have hB5 : Below w.heap.size w (V4.setCell ⟨w.heap.size + 2, 3, none⟩ (.int .u16 (P1 : Nat))).drew := (hB4.setCell (p := ⟨w.heap.size + 2, 3, none⟩) (by show w.heap.size ≤ w.heap.size + 2; omega) _).drew
  clear c3 c4 c6 c10 g0 g1 g2 g3 g4 k0 k1 k2 k3 k4 c10d z2d z3d g3d k3d z2 z3 e4 ep ef hB4
  generalize (V4.setCell ⟨w.heap.size + 2, 3, none⟩ (.int .u16 (P1 : Nat))).drew = V5 at e5 ef5 hB5 ⊢
  obtain ⟨g0, g1, g2, g3, g4, k0, k1, k2, k3, k4⟩ := fl_cells e5
  obtain ⟨r0, r1, r2, r3, r4, s0, s1, s2, s3, s4⟩ := fl_cells ef5
  go_wp2_with fail
  simp [bodyPost, results, Try.results22, go_sem, *]

  exact bset5 hB5 (Nat.le_succ _) _ _ _ _ _

end Go.Proofs.Ytbcofkiefompgaa
