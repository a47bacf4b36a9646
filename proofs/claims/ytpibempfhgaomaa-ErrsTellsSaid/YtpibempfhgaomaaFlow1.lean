/- Contracts of ipv4.Part, flow.Of and of the reference's Of. -/
import Derived.Test.YtpibempfhgaomaaBlk
import Derived.Test.YtpibempfhgaomaaSum1
import Derived.Test.YtpibempfhgaomaaProg
import Derived.BigQuiet
import Derived.Deep.QuietTactic
import Derived.Outline
import Derived.RegionTactic
namespace Go.Proofs.Ytpibempfhgaomaa
open Go.RowKit

theorem part_mf (v0 v1 v2 v5 v9 : Value) (off pr s d : Int) (dv : Value) (w : World) : Calls Try.prog 44 #[.agg #[v0, v1, v2, .bool true, .int .u16 off, v5, .int .u8 pr, .int .u32 s, .int .u32 d, v9, dv]] w fun e w' => e = .returned (.bool true) ∧ Below w.heap.size w w' := by
  have hB := bnextA (Below.refl w.heap.size w) (.cells #[v0, v1, v2, .bool true, .int .u16 off, v5, .int .u8 pr, .int .u32 s, .int .u32 d, v9, dv] 36)
  go_enter Try.func44, Try.ntmps44
  go_wp2_with fail
  go_ret
  exact ⟨rfl, hB⟩

theorem part_off (v0 v1 v2 v5 v9 : Value) (off pr s d : Int) (dv : Value) (ho : ((off : Int) != 0) = true) (w : World) : Calls Try.prog 44 #[.agg #[v0, v1, v2, .bool false, .int .u16 off, v5, .int .u8 pr, .int .u32 s, .int .u32 d, v9, dv]] w fun e w' => e = .returned (.bool true) ∧ Below w.heap.size w w' := by
  have hB := bnextA (Below.refl w.heap.size w) (.cells #[v0, v1, v2, .bool false, .int .u16 off, v5, .int .u8 pr, .int .u32 s, .int .u32 d, v9, dv] 36)
  go_enter Try.func44, Try.ntmps44
  go_wp2_with fail
  go_ret
  exact ⟨rfl, hB⟩

theorem part_no (v0 v1 v2 v5 v9 : Value) (off pr s d : Int) (dv : Value) (ho : ((off : Int) != 0) = false) (w : World) : Calls Try.prog 44 #[.agg #[v0, v1, v2, .bool false, .int .u16 off, v5, .int .u8 pr, .int .u32 s, .int .u32 d, v9, dv]] w fun e w' => e = .returned (.bool false) ∧ Below w.heap.size w w' := by
  have hB := bnextA (Below.refl w.heap.size w) (.cells #[v0, v1, v2, .bool false, .int .u16 off, v5, .int .u8 pr, .int .u32 s, .int .u32 d, v9, dv] 36)
  go_enter Try.func44, Try.ntmps44
  go_wp2_with fail
  go_ret
  exact ⟨rfl, hB⟩

theorem pk_cells {W : World} {g : Nat} {e : TypeId} {v0 v1 v2 v3 v4 v5 v6 v7 v8 v9 v10 : Value} (h : Blk W g [v0, v1, v2, v3, v4, v5, v6, v7, v8, v9, v10] e) : W.cell? ⟨g, 3, none⟩ = some v3 ∧ W.cell? ⟨g, 4, none⟩ = some v4 ∧ W.cell? ⟨g, 6, none⟩ = some v6 ∧ W.cell? ⟨g, 10, none⟩ = some v10 := ⟨h.cell 3, h.cell 4, h.cell 6, h.cell 10⟩
theorem fl_cells {W : World} {g : Nat} {e : TypeId} {v0 v1 v2 v3 v4 : Value} (h : Blk W g [v0, v1, v2, v3, v4] e) : W.cell? ⟨g, 0, none⟩ = some v0 ∧ W.cell? ⟨g, 1, none⟩ = some v1 ∧ W.cell? ⟨g, 2, none⟩ = some v2 ∧ W.cell? ⟨g, 3, none⟩ = some v3 ∧ W.cell? ⟨g, 4, none⟩ = some v4 ∧ W.frozen? ⟨g, 0, none⟩ = false ∧ W.frozen? ⟨g, 1, none⟩ = false ∧ W.frozen? ⟨g, 2, none⟩ = false ∧ W.frozen? ⟨g, 3, none⟩ = false ∧ W.frozen? ⟨g, 4, none⟩ = false := ⟨h.cell 0, h.cell 1, h.cell 2, h.cell 3, h.cell 4, h.frozen 0, h.frozen 1, h.frozen 2, h.frozen 3, h.frozen 4⟩

theorem fof_mf (v0 v1 v2 v5 v9 : Value) (off pr s d : Int) (dv : Value) (w : World) : Calls Try.prog 27 #[.agg #[v0, v1, v2, .bool true, .int .u16 off, v5, .int .u8 pr, .int .u32 s, .int .u32 d, v9, dv]] w fun e w' => e = .returned (.tuple #[.agg #[.int .u32 0, .int .u32 0, .int .u16 0, .int .u16 0, .int .u8 0], .int .i64 11]) ∧ Below w.heap.size w w' := by
  have hB := bnextA (bnextA (Below.refl w.heap.size w) (.cells #[v0, v1, v2, .bool true, .int .u16 off, v5, .int .u8 pr, .int .u32 s, .int .u32 d, v9, dv] 36)) (.cells #[.int .u32 0, .int .u32 0, .int .u16 0, .int .u16 0, .int .u8 0] 49)
  have hbp := (Blk.new w #[v0, v1, v2, .bool true, .int .u16 off, v5, .int .u8 pr, .int .u32 s, .int .u32 d, v9, dv] 36).alloc (.cells #[.int .u32 0, .int .u32 0, .int .u16 0, .int .u16 0, .int .u8 0] 49)
  have hbf := Blk.new (w.alloc (.cells #[v0, v1, v2, .bool true, .int .u16 off, v5, .int .u8 pr, .int .u32 s, .int .u32 d, v9, dv] 36)) #[.int .u32 0, .int .u32 0, .int .u16 0, .int .u16 0, .int .u8 0] 49
  rw [show (w.alloc (.cells #[v0, v1, v2, .bool true, .int .u16 off, v5, .int .u8 pr, .int .u32 s, .int .u32 d, v9, dv] 36)).heap.size = w.heap.size + 1 by simp] at hbf
  have HP := fun W => Lib.hid (part_mf v0 v1 v2 v5 v9 off pr s d dv W)
  go_enter Try.func27, Try.ntmps27
  go_wp2_with fail
  refine (HP _).out.mono ?_
  rintro e w1 ⟨rfl, hb⟩
  have hbp1 := hbp.next hb
  have hbf1 := hbf.next hb
  have hB1 := bnext hB hb
  clear hbp hbf hB HP hb
  obtain ⟨c3, c4, c6, c10⟩ := pk_cells hbp1
  obtain ⟨g0, g1, g2, g3, g4, k0, k1, k2, k3, k4⟩ := fl_cells hbf1
  go_wp2_with fail
  simp [bodyPost, results, Try.results27, go_sem, *]
  exact ((((hB1.setCell (p := ⟨w.heap.size + 1, 0, none⟩) (Nat.le_succ _) _).setCell (p := ⟨w.heap.size + 1, 1, none⟩) (Nat.le_succ _) _).setCell (p := ⟨w.heap.size + 1, 2, none⟩) (Nat.le_succ _) _).setCell (p := ⟨w.heap.size + 1, 3, none⟩) (Nat.le_succ _) _).setCell (p := ⟨w.heap.size + 1, 4, none⟩) (Nat.le_succ _) _

theorem fof_off (v0 v1 v2 v5 v9 : Value) (off pr s d : Int) (dv : Value) (ho : ((off : Int) != 0) = true) (w : World) : Calls Try.prog 27 #[.agg #[v0, v1, v2, .bool false, .int .u16 off, v5, .int .u8 pr, .int .u32 s, .int .u32 d, v9, dv]] w fun e w' => e = .returned (.tuple #[.agg #[.int .u32 0, .int .u32 0, .int .u16 0, .int .u16 0, .int .u8 0], .int .i64 11]) ∧ Below w.heap.size w w' := by
  have hB := bnextA (bnextA (Below.refl w.heap.size w) (.cells #[v0, v1, v2, .bool false, .int .u16 off, v5, .int .u8 pr, .int .u32 s, .int .u32 d, v9, dv] 36)) (.cells #[.int .u32 0, .int .u32 0, .int .u16 0, .int .u16 0, .int .u8 0] 49)
  have hbp := (Blk.new w #[v0, v1, v2, .bool false, .int .u16 off, v5, .int .u8 pr, .int .u32 s, .int .u32 d, v9, dv] 36).alloc (.cells #[.int .u32 0, .int .u32 0, .int .u16 0, .int .u16 0, .int .u8 0] 49)
  have hbf := Blk.new (w.alloc (.cells #[v0, v1, v2, .bool false, .int .u16 off, v5, .int .u8 pr, .int .u32 s, .int .u32 d, v9, dv] 36)) #[.int .u32 0, .int .u32 0, .int .u16 0, .int .u16 0, .int .u8 0] 49
  rw [show (w.alloc (.cells #[v0, v1, v2, .bool false, .int .u16 off, v5, .int .u8 pr, .int .u32 s, .int .u32 d, v9, dv] 36)).heap.size = w.heap.size + 1 by simp] at hbf
  have HP := fun W => Lib.hid (part_off v0 v1 v2 v5 v9 off pr s d dv ho W)
  go_enter Try.func27, Try.ntmps27
  go_wp2_with fail
  refine (HP _).out.mono ?_
  rintro e w1 ⟨rfl, hb⟩
  have hbp1 := hbp.next hb
  have hbf1 := hbf.next hb
  have hB1 := bnext hB hb
  clear hbp hbf hB HP hb
  obtain ⟨c3, c4, c6, c10⟩ := pk_cells hbp1
  obtain ⟨g0, g1, g2, g3, g4, k0, k1, k2, k3, k4⟩ := fl_cells hbf1
  go_wp2_with fail
  simp [bodyPost, results, Try.results27, go_sem, *]
  exact ((((hB1.setCell (p := ⟨w.heap.size + 1, 0, none⟩) (Nat.le_succ _) _).setCell (p := ⟨w.heap.size + 1, 1, none⟩) (Nat.le_succ _) _).setCell (p := ⟨w.heap.size + 1, 2, none⟩) (Nat.le_succ _) _).setCell (p := ⟨w.heap.size + 1, 3, none⟩) (Nat.le_succ _) _).setCell (p := ⟨w.heap.size + 1, 4, none⟩) (Nat.le_succ _) _

theorem fof_form (v0 v1 v2 v5 v9 : Value) (off pr s d : Int) (dv : Value) (ho : ((off : Int) != 0) = false) (h6 : ((pr : Int) != 6) = true) (h17 : ((pr : Int) != 17) = true) (w : World) : Calls Try.prog 27 #[.agg #[v0, v1, v2, .bool false, .int .u16 off, v5, .int .u8 pr, .int .u32 s, .int .u32 d, v9, dv]] w fun e w' => e = .returned (.tuple #[.agg #[.int .u32 0, .int .u32 0, .int .u16 0, .int .u16 0, .int .u8 0], .int .i64 3]) ∧ Below w.heap.size w w' := by
  have hB := bnextA (bnextA (Below.refl w.heap.size w) (.cells #[v0, v1, v2, .bool false, .int .u16 off, v5, .int .u8 pr, .int .u32 s, .int .u32 d, v9, dv] 36)) (.cells #[.int .u32 0, .int .u32 0, .int .u16 0, .int .u16 0, .int .u8 0] 49)
  have hbp := (Blk.new w #[v0, v1, v2, .bool false, .int .u16 off, v5, .int .u8 pr, .int .u32 s, .int .u32 d, v9, dv] 36).alloc (.cells #[.int .u32 0, .int .u32 0, .int .u16 0, .int .u16 0, .int .u8 0] 49)
  have hbf := Blk.new (w.alloc (.cells #[v0, v1, v2, .bool false, .int .u16 off, v5, .int .u8 pr, .int .u32 s, .int .u32 d, v9, dv] 36)) #[.int .u32 0, .int .u32 0, .int .u16 0, .int .u16 0, .int .u8 0] 49
  rw [show (w.alloc (.cells #[v0, v1, v2, .bool false, .int .u16 off, v5, .int .u8 pr, .int .u32 s, .int .u32 d, v9, dv] 36)).heap.size = w.heap.size + 1 by simp] at hbf
  have HP := fun W => Lib.hid (part_no v0 v1 v2 v5 v9 off pr s d dv ho W)
  go_enter Try.func27, Try.ntmps27
  go_wp2_with fail
  refine (HP _).out.mono ?_
  rintro e w1 ⟨rfl, hb⟩
  have hbp1 := hbp.next hb
  have hbf1 := hbf.next hb
  have hB1 := bnext hB hb
  clear hbp hbf hB HP hb
  obtain ⟨c3, c4, c6, c10⟩ := pk_cells hbp1
  obtain ⟨g0, g1, g2, g3, g4, k0, k1, k2, k3, k4⟩ := fl_cells hbf1
  go_wp2_with fail
  simp [bodyPost, results, Try.results27, go_sem, *]
  exact ((((hB1.setCell (p := ⟨w.heap.size + 1, 0, none⟩) (Nat.le_succ _) _).setCell (p := ⟨w.heap.size + 1, 1, none⟩) (Nat.le_succ _) _).setCell (p := ⟨w.heap.size + 1, 2, none⟩) (Nat.le_succ _) _).setCell (p := ⟨w.heap.size + 1, 3, none⟩) (Nat.le_succ _) _).setCell (p := ⟨w.heap.size + 1, 4, none⟩) (Nat.le_succ _) _

theorem fof_short6 (v0 v1 v2 v5 v9 : Value) (off s d : Int) (A : Option Addr) (n c : Nat) (ho : ((off : Int) != 0) = false) (hn : n < 4) (_hnc : n ≤ c) (_hc : c ≤ 9223372036854775807) (w : World) : Calls Try.prog 27 #[.agg #[v0, v1, v2, .bool false, .int .u16 off, v5, .int .u8 6, .int .u32 s, .int .u32 d, v9, .slice A n c]] w fun e w' => e = .returned (.tuple #[.agg #[.int .u32 0, .int .u32 0, .int .u16 0, .int .u16 0, .int .u8 0], .int .i64 4]) ∧ Below w.heap.size w w' := by
  have hB := bnextA (bnextA (Below.refl w.heap.size w) (.cells #[v0, v1, v2, .bool false, .int .u16 off, v5, .int .u8 6, .int .u32 s, .int .u32 d, v9, .slice A n c] 36)) (.cells #[.int .u32 0, .int .u32 0, .int .u16 0, .int .u16 0, .int .u8 0] 49)
  have hbp := (Blk.new w #[v0, v1, v2, .bool false, .int .u16 off, v5, .int .u8 6, .int .u32 s, .int .u32 d, v9, .slice A n c] 36).alloc (.cells #[.int .u32 0, .int .u32 0, .int .u16 0, .int .u16 0, .int .u8 0] 49)
  have hbf := Blk.new (w.alloc (.cells #[v0, v1, v2, .bool false, .int .u16 off, v5, .int .u8 6, .int .u32 s, .int .u32 d, v9, .slice A n c] 36)) #[.int .u32 0, .int .u32 0, .int .u16 0, .int .u16 0, .int .u8 0] 49
  rw [show (w.alloc (.cells #[v0, v1, v2, .bool false, .int .u16 off, v5, .int .u8 6, .int .u32 s, .int .u32 d, v9, .slice A n c] 36)).heap.size = w.heap.size + 1 by simp] at hbf
  have HP := fun W => Lib.hid (part_no v0 v1 v2 v5 v9 off 6 s d (.slice A n c) ho W)
  go_enter Try.func27, Try.ntmps27
  go_wp2_with fail
  refine (HP _).out.mono ?_
  rintro e w1 ⟨rfl, hb⟩
  have hbp1 := hbp.next hb
  have hbf1 := hbf.next hb
  have hB1 := bnext hB hb
  clear hbp hbf hB HP hb
  obtain ⟨c3, c4, c6, c10⟩ := pk_cells hbp1
  obtain ⟨g0, g1, g2, g3, g4, k0, k1, k2, k3, k4⟩ := fl_cells hbf1
  go_wp2_with fail
  simp [bodyPost, results, Try.results27, go_sem, *]
  exact ((((hB1.setCell (p := ⟨w.heap.size + 1, 0, none⟩) (Nat.le_succ _) _).setCell (p := ⟨w.heap.size + 1, 1, none⟩) (Nat.le_succ _) _).setCell (p := ⟨w.heap.size + 1, 2, none⟩) (Nat.le_succ _) _).setCell (p := ⟨w.heap.size + 1, 3, none⟩) (Nat.le_succ _) _).setCell (p := ⟨w.heap.size + 1, 4, none⟩) (Nat.le_succ _) _

theorem fof_short17 (v0 v1 v2 v5 v9 : Value) (off s d : Int) (A : Option Addr) (n c : Nat) (ho : ((off : Int) != 0) = false) (hn : n < 4) (_hnc : n ≤ c) (_hc : c ≤ 9223372036854775807) (w : World) : Calls Try.prog 27 #[.agg #[v0, v1, v2, .bool false, .int .u16 off, v5, .int .u8 17, .int .u32 s, .int .u32 d, v9, .slice A n c]] w fun e w' => e = .returned (.tuple #[.agg #[.int .u32 0, .int .u32 0, .int .u16 0, .int .u16 0, .int .u8 0], .int .i64 4]) ∧ Below w.heap.size w w' := by
  have hB := bnextA (bnextA (Below.refl w.heap.size w) (.cells #[v0, v1, v2, .bool false, .int .u16 off, v5, .int .u8 17, .int .u32 s, .int .u32 d, v9, .slice A n c] 36)) (.cells #[.int .u32 0, .int .u32 0, .int .u16 0, .int .u16 0, .int .u8 0] 49)
  have hbp := (Blk.new w #[v0, v1, v2, .bool false, .int .u16 off, v5, .int .u8 17, .int .u32 s, .int .u32 d, v9, .slice A n c] 36).alloc (.cells #[.int .u32 0, .int .u32 0, .int .u16 0, .int .u16 0, .int .u8 0] 49)
  have hbf := Blk.new (w.alloc (.cells #[v0, v1, v2, .bool false, .int .u16 off, v5, .int .u8 17, .int .u32 s, .int .u32 d, v9, .slice A n c] 36)) #[.int .u32 0, .int .u32 0, .int .u16 0, .int .u16 0, .int .u8 0] 49
  rw [show (w.alloc (.cells #[v0, v1, v2, .bool false, .int .u16 off, v5, .int .u8 17, .int .u32 s, .int .u32 d, v9, .slice A n c] 36)).heap.size = w.heap.size + 1 by simp] at hbf
  have HP := fun W => Lib.hid (part_no v0 v1 v2 v5 v9 off 17 s d (.slice A n c) ho W)
  go_enter Try.func27, Try.ntmps27
  go_wp2_with fail
  refine (HP _).out.mono ?_
  rintro e w1 ⟨rfl, hb⟩
  have hbp1 := hbp.next hb
  have hbf1 := hbf.next hb
  have hB1 := bnext hB hb
  clear hbp hbf hB HP hb
  obtain ⟨c3, c4, c6, c10⟩ := pk_cells hbp1
  obtain ⟨g0, g1, g2, g3, g4, k0, k1, k2, k3, k4⟩ := fl_cells hbf1
  go_wp2_with fail
  simp [bodyPost, results, Try.results27, go_sem, *]
  exact ((((hB1.setCell (p := ⟨w.heap.size + 1, 0, none⟩) (Nat.le_succ _) _).setCell (p := ⟨w.heap.size + 1, 1, none⟩) (Nat.le_succ _) _).setCell (p := ⟨w.heap.size + 1, 2, none⟩) (Nat.le_succ _) _).setCell (p := ⟨w.heap.size + 1, 3, none⟩) (Nat.le_succ _) _).setCell (p := ⟨w.heap.size + 1, 4, none⟩) (Nat.le_succ _) _

end Go.Proofs.Ytpibempfhgaomaa
