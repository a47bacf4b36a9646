/- Contracts of quote.Of. -/
import Derived.Test.YtpibempfhgaomaaQuo1
namespace Go.Proofs.Ytpibempfhgaomaa
open Go.RowKit

theorem qabout (ty co : UInt8) (re : UInt32) (A : Option Addr) (n c : Nat) (w : World) (b : Bool) (h : decide (ty.toNat = 3 ∨ ty.toNat = 11 ∨ ty.toNat = 12) = b) : Calls Try.prog 26 #[.agg #[.int .u8 (ty.toNat : Int), .int .u8 (co.toNat : Int), .int .u32 (re.toNat : Int), .slice A n c]] w fun e w' => e = .returned (.bool b) ∧ Below w.heap.size w w' := by
  have := iabout_any ty co re (.slice A n c) ⟨_, _, _, rfl⟩ w
  rwa [h] at this
theorem and_15 (x : Nat) (h : x < 256) : bits BinOp.and IntKind.u8 (x : Int) 15 = ((x % 16 : Nat) : Int) := by
  rw [show (15 : Int) = ((15 : Nat) : Int) from rfl, u8_and_nat _ _ (by omega) (by omega)]
  congr 1
  exact Nat.and_two_pow_sub_one_eq_mod x 4

set_option maxHeartbeats 2000000 in
theorem qof_state (ty co : UInt8) (re : UInt32) (A : Option Addr) (c : Nat) (xs : List UInt8) (w : World) (hr : Rd bv w w.heap.size A c xs) (hab : decide (ty.toNat = 3 ∨ ty.toNat = 11 ∨ ty.toNat = 12) = false) :
    Calls Try.prog 9 #[.agg #[.int .u8 (ty.toNat : Int), .int .u8 (co.toNat : Int), .int .u32 (re.toNat : Int), .slice A xs.length c]] w fun e w' => e = .returned (.tuple #[.agg #[.int .u32 0, .int .u32 0, .int .u16 0, .int .u16 0, .int .u8 0], .int .i64 10]) ∧ Below w.heap.size w w' := by
  have hlc := hr.len
  have hcc := hr.cap
  have HA := fun W => Lib.hid (qabout ty co re A xs.length c W false hab)
  have hB0 := bnextA (bnextA (Below.refl w.heap.size w) (.cells #[.int .u8 (ty.toNat : Int), .int .u8 (co.toNat : Int), .int .u32 (re.toNat : Int), .slice A xs.length c] 44)) (.cells #[.int .u32 0, .int .u32 0, .int .u16 0, .int .u16 0, .int .u8 0] 49)
  have hp0 := (Blk.new w #[.int .u8 (ty.toNat : Int), .int .u8 (co.toNat : Int), .int .u32 (re.toNat : Int), .slice A xs.length c] 44).alloc (.cells #[.int .u32 0, .int .u32 0, .int .u16 0, .int .u16 0, .int .u8 0] 49)
  have hf0 := Blk.new (w.alloc (.cells #[.int .u8 (ty.toNat : Int), .int .u8 (co.toNat : Int), .int .u32 (re.toNat : Int), .slice A xs.length c] 44)) #[.int .u32 0, .int .u32 0, .int .u16 0, .int .u16 0, .int .u8 0] 49
  rw [show (w.alloc (.cells #[.int .u8 (ty.toNat : Int), .int .u8 (co.toNat : Int), .int .u32 (re.toNat : Int), .slice A xs.length c] 44)).heap.size = w.heap.size + 1 by simp] at hf0
  have hr2 := (hr.nextA (.cells #[.int .u8 (ty.toNat : Int), .int .u8 (co.toNat : Int), .int .u32 (re.toNat : Int), .slice A xs.length c] 44)).nextA (.cells #[.int .u32 0, .int .u32 0, .int .u16 0, .int .u16 0, .int .u8 0] 49)
  clear hab
  go_enter Try.func9, Try.ntmps9
  go_wp2_with fail
  refine (HA _).out.mono ?_
  rintro e w1 ⟨rfl, hb⟩
  have hp := hp0.next hb
  have hf := hf0.next hb
  have hB := bnext hB0 hb
  replace hr2 := hr2.next hb
  clear hb hp0 hf0 hB0 HA hr
  obtain ⟨c0, c1, c2, c3, -⟩ := hp.get4
  obtain ⟨g0, g1, g2, g3, g4, k0, k1, k2, k3, k4⟩ := fl_cells hf
  go_wp2_with fail
  simp [bodyPost, results, Try.results9, go_sem, *]
  try exact bset5 hB (Nat.le_succ _) _ _ _ _ _

set_option maxHeartbeats 2000000 in
theorem qof_short (ty co : UInt8) (re : UInt32) (A : Option Addr) (c : Nat) (xs : List UInt8) (w : World) (hr : Rd bv w w.heap.size A c xs) (hab : decide (ty.toNat = 3 ∨ ty.toNat = 11 ∨ ty.toNat = 12) = true) (h20 : xs.length < 20) :
    Calls Try.prog 9 #[.agg #[.int .u8 (ty.toNat : Int), .int .u8 (co.toNat : Int), .int .u32 (re.toNat : Int), .slice A xs.length c]] w fun e w' => e = .returned (.tuple #[.agg #[.int .u32 0, .int .u32 0, .int .u16 0, .int .u16 0, .int .u8 0], .int .i64 4]) ∧ Below w.heap.size w w' := by
  have hlc := hr.len
  have hcc := hr.cap
  have HA := fun W => Lib.hid (qabout ty co re A xs.length c W true hab)
  have i1 : decide ((xs.length : Int) < 20) = true := by simp; omega
  have hB0 := bnextA (bnextA (Below.refl w.heap.size w) (.cells #[.int .u8 (ty.toNat : Int), .int .u8 (co.toNat : Int), .int .u32 (re.toNat : Int), .slice A xs.length c] 44)) (.cells #[.int .u32 0, .int .u32 0, .int .u16 0, .int .u16 0, .int .u8 0] 49)
  have hp0 := (Blk.new w #[.int .u8 (ty.toNat : Int), .int .u8 (co.toNat : Int), .int .u32 (re.toNat : Int), .slice A xs.length c] 44).alloc (.cells #[.int .u32 0, .int .u32 0, .int .u16 0, .int .u16 0, .int .u8 0] 49)
  have hf0 := Blk.new (w.alloc (.cells #[.int .u8 (ty.toNat : Int), .int .u8 (co.toNat : Int), .int .u32 (re.toNat : Int), .slice A xs.length c] 44)) #[.int .u32 0, .int .u32 0, .int .u16 0, .int .u16 0, .int .u8 0] 49
  rw [show (w.alloc (.cells #[.int .u8 (ty.toNat : Int), .int .u8 (co.toNat : Int), .int .u32 (re.toNat : Int), .slice A xs.length c] 44)).heap.size = w.heap.size + 1 by simp] at hf0
  have hr2 := (hr.nextA (.cells #[.int .u8 (ty.toNat : Int), .int .u8 (co.toNat : Int), .int .u32 (re.toNat : Int), .slice A xs.length c] 44)).nextA (.cells #[.int .u32 0, .int .u32 0, .int .u16 0, .int .u16 0, .int .u8 0] 49)
  clear hab
  go_enter Try.func9, Try.ntmps9
  go_wp2_with fail
  refine (HA _).out.mono ?_
  rintro e w1 ⟨rfl, hb⟩
  have hp := hp0.next hb
  have hf := hf0.next hb
  have hB := bnext hB0 hb
  replace hr2 := hr2.next hb
  clear hb hp0 hf0 hB0 HA hr
  obtain ⟨c0, c1, c2, c3, -⟩ := hp.get4
  obtain ⟨g0, g1, g2, g3, g4, k0, k1, k2, k3, k4⟩ := fl_cells hf
  go_wp2_with fail
  simp [bodyPost, results, Try.results9, go_sem, *]
  try exact bset5 hB (Nat.le_succ _) _ _ _ _ _

set_option maxHeartbeats 2000000 in
theorem qof_form0 (ty co : UInt8) (re : UInt32) (A : Option Addr) (c : Nat) (xs : List UInt8) (w : World) (hr : Rd bv w w.heap.size A c xs) (hab : decide (ty.toNat = 3 ∨ ty.toNat = 11 ∨ ty.toNat = 12) = true) (h20 : 20 ≤ xs.length) (hm : (xs[0]).toNat < 69) :
    Calls Try.prog 9 #[.agg #[.int .u8 (ty.toNat : Int), .int .u8 (co.toNat : Int), .int .u32 (re.toNat : Int), .slice A xs.length c]] w fun e w' => e = .returned (.tuple #[.agg #[.int .u32 0, .int .u32 0, .int .u16 0, .int .u16 0, .int .u8 0], .int .i64 3]) ∧ Below w.heap.size w w' := by
  have hlc := hr.len
  have hcc := hr.cap
  have HA := fun W => Lib.hid (qabout ty co re A xs.length c W true hab)
  obtain ⟨b0, off, hA, hB1, hcell⟩ := byt_at hr (k := 0) (by omega)
  subst hA
  have x0 := hcell 0 (by omega)
  simp only [Nat.add_zero] at x0
  have hx0 := (xs[0]).toNat_lt
  have i0 : (0 : Int) < (xs.length : Int) := by omega
  have i1 : decide ((xs.length : Int) < 20) = false := by simp; omega
  generalize xs[0] = y0 at *
  have d1 : decide ((y0.toNat : Int) < 69) = true := by simp; omega
  clear hcell hm hx0
  have hB0 := bnextA (bnextA (Below.refl w.heap.size w) (.cells #[.int .u8 (ty.toNat : Int), .int .u8 (co.toNat : Int), .int .u32 (re.toNat : Int), .slice (some ⟨b0, off, none⟩) xs.length c] 44)) (.cells #[.int .u32 0, .int .u32 0, .int .u16 0, .int .u16 0, .int .u8 0] 49)
  have hp0 := (Blk.new w #[.int .u8 (ty.toNat : Int), .int .u8 (co.toNat : Int), .int .u32 (re.toNat : Int), .slice (some ⟨b0, off, none⟩) xs.length c] 44).alloc (.cells #[.int .u32 0, .int .u32 0, .int .u16 0, .int .u16 0, .int .u8 0] 49)
  have hf0 := Blk.new (w.alloc (.cells #[.int .u8 (ty.toNat : Int), .int .u8 (co.toNat : Int), .int .u32 (re.toNat : Int), .slice (some ⟨b0, off, none⟩) xs.length c] 44)) #[.int .u32 0, .int .u32 0, .int .u16 0, .int .u16 0, .int .u8 0] 49
  rw [show (w.alloc (.cells #[.int .u8 (ty.toNat : Int), .int .u8 (co.toNat : Int), .int .u32 (re.toNat : Int), .slice (some ⟨b0, off, none⟩) xs.length c] 44)).heap.size = w.heap.size + 1 by simp] at hf0
  have hr2 := (hr.nextA (.cells #[.int .u8 (ty.toNat : Int), .int .u8 (co.toNat : Int), .int .u32 (re.toNat : Int), .slice (some ⟨b0, off, none⟩) xs.length c] 44)).nextA (.cells #[.int .u32 0, .int .u32 0, .int .u16 0, .int .u16 0, .int .u8 0] 49)
  clear hab
  go_enter Try.func9, Try.ntmps9
  go_wp2_with fail
  refine (HA _).out.mono ?_
  rintro e w1 ⟨rfl, hb⟩
  have hp := hp0.next hb
  have hf := hf0.next hb
  have hB := bnext hB0 hb
  replace hr2 := hr2.next hb
  clear hb hp0 hf0 hB0 HA hr
  obtain ⟨c0, c1, c2, c3, -⟩ := hp.get4
  obtain ⟨g0, g1, g2, g3, g4, k0, k1, k2, k3, k4⟩ := fl_cells hf
  have n0 := (hB.cell (p := ⟨b0, off, none⟩) hB1).trans x0
  go_wp2_with fail
  simp [bodyPost, results, Try.results9, go_sem, *]
  try exact bset5 hB (Nat.le_succ _) _ _ _ _ _

set_option maxHeartbeats 2000000 in
theorem qof_form1 (ty co : UInt8) (re : UInt32) (A : Option Addr) (c : Nat) (xs : List UInt8) (w : World) (hr : Rd bv w w.heap.size A c xs) (hab : decide (ty.toNat = 3 ∨ ty.toNat = 11 ∨ ty.toNat = 12) = true) (h20 : 20 ≤ xs.length) (hm : 79 < (xs[0]).toNat) :
    Calls Try.prog 9 #[.agg #[.int .u8 (ty.toNat : Int), .int .u8 (co.toNat : Int), .int .u32 (re.toNat : Int), .slice A xs.length c]] w fun e w' => e = .returned (.tuple #[.agg #[.int .u32 0, .int .u32 0, .int .u16 0, .int .u16 0, .int .u8 0], .int .i64 3]) ∧ Below w.heap.size w w' := by
  have hlc := hr.len
  have hcc := hr.cap
  have HA := fun W => Lib.hid (qabout ty co re A xs.length c W true hab)
  obtain ⟨b0, off, hA, hB1, hcell⟩ := byt_at hr (k := 0) (by omega)
  subst hA
  have x0 := hcell 0 (by omega)
  simp only [Nat.add_zero] at x0
  have hx0 := (xs[0]).toNat_lt
  have i0 : (0 : Int) < (xs.length : Int) := by omega
  have i1 : decide ((xs.length : Int) < 20) = false := by simp; omega
  generalize xs[0] = y0 at *
  have d1 : decide ((y0.toNat : Int) < 69) = false := by simp; omega
  have d2 : decide ((79 : Int) < (y0.toNat : Int)) = true := by simp; omega
  clear hcell hm hx0
  have hB0 := bnextA (bnextA (Below.refl w.heap.size w) (.cells #[.int .u8 (ty.toNat : Int), .int .u8 (co.toNat : Int), .int .u32 (re.toNat : Int), .slice (some ⟨b0, off, none⟩) xs.length c] 44)) (.cells #[.int .u32 0, .int .u32 0, .int .u16 0, .int .u16 0, .int .u8 0] 49)
  have hp0 := (Blk.new w #[.int .u8 (ty.toNat : Int), .int .u8 (co.toNat : Int), .int .u32 (re.toNat : Int), .slice (some ⟨b0, off, none⟩) xs.length c] 44).alloc (.cells #[.int .u32 0, .int .u32 0, .int .u16 0, .int .u16 0, .int .u8 0] 49)
  have hf0 := Blk.new (w.alloc (.cells #[.int .u8 (ty.toNat : Int), .int .u8 (co.toNat : Int), .int .u32 (re.toNat : Int), .slice (some ⟨b0, off, none⟩) xs.length c] 44)) #[.int .u32 0, .int .u32 0, .int .u16 0, .int .u16 0, .int .u8 0] 49
  rw [show (w.alloc (.cells #[.int .u8 (ty.toNat : Int), .int .u8 (co.toNat : Int), .int .u32 (re.toNat : Int), .slice (some ⟨b0, off, none⟩) xs.length c] 44)).heap.size = w.heap.size + 1 by simp] at hf0
  have hr2 := (hr.nextA (.cells #[.int .u8 (ty.toNat : Int), .int .u8 (co.toNat : Int), .int .u32 (re.toNat : Int), .slice (some ⟨b0, off, none⟩) xs.length c] 44)).nextA (.cells #[.int .u32 0, .int .u32 0, .int .u16 0, .int .u16 0, .int .u8 0] 49)
  clear hab
  go_enter Try.func9, Try.ntmps9
  go_wp2_with fail
  refine (HA _).out.mono ?_
  rintro e w1 ⟨rfl, hb⟩
  have hp := hp0.next hb
  have hf := hf0.next hb
  have hB := bnext hB0 hb
  replace hr2 := hr2.next hb
  clear hb hp0 hf0 hB0 HA hr
  obtain ⟨c0, c1, c2, c3, -⟩ := hp.get4
  obtain ⟨g0, g1, g2, g3, g4, k0, k1, k2, k3, k4⟩ := fl_cells hf
  have n0 := (hB.cell (p := ⟨b0, off, none⟩) hB1).trans x0
  go_wp2_with fail
  simp [bodyPost, results, Try.results9, go_sem, *]
  try exact bset5 hB (Nat.le_succ _) _ _ _ _ _

set_option maxHeartbeats 2000000 in
theorem qof_long (ty co : UInt8) (re : UInt32) (A : Option Addr) (c : Nat) (xs : List UInt8) (w : World) (hr : Rd bv w w.heap.size A c xs) (hab : decide (ty.toNat = 3 ∨ ty.toNat = 11 ∨ ty.toNat = 12) = true) (h20 : 20 ≤ xs.length) (m : Nat) (hm : (xs[0]).toNat = 64 + m) (hm5 : 5 ≤ m) (hm15 : m ≤ 15) (hl : xs.length < 4 * m) :
    Calls Try.prog 9 #[.agg #[.int .u8 (ty.toNat : Int), .int .u8 (co.toNat : Int), .int .u32 (re.toNat : Int), .slice A xs.length c]] w fun e w' => e = .returned (.tuple #[.agg #[.int .u32 0, .int .u32 0, .int .u16 0, .int .u16 0, .int .u8 0], .int .i64 4]) ∧ Below w.heap.size w w' := by
  have hlc := hr.len
  have hcc := hr.cap
  have HA := fun W => Lib.hid (qabout ty co re A xs.length c W true hab)
  obtain ⟨b0, off, hA, hB1, hcell⟩ := byt_at hr (k := 0) (by omega)
  subst hA
  have x0 := hcell 0 (by omega)
  simp only [Nat.add_zero] at x0
  have hx0 := (xs[0]).toNat_lt
  have i0 : (0 : Int) < (xs.length : Int) := by omega
  have i1 : decide ((xs.length : Int) < 20) = false := by simp; omega
  generalize xs[0] = y0 at *
  have d1 : decide ((y0.toNat : Int) < 69) = false := by simp; omega
  have d2 : decide ((79 : Int) < (y0.toNat : Int)) = false := by simp; omega
  have d3 := and_15 y0.toNat hx0
  rw [show y0.toNat % 16 = m by omega] at d3
  have d4 : IntKind.i64.wrap (m : Int) = (m : Int) := by rw [IntKind.wrap_i64]; omega
  obtain ⟨n, hn⟩ : ∃ n, 4 * m = n := ⟨_, rfl⟩
  have d5 : 4 * (m : Int) = (n : Int) := by omega
  have d6 : IntKind.i64.wrap (n : Int) = (n : Int) := by rw [IntKind.wrap_i64]; omega
  rw [hn] at hl
  have d7 : decide ((xs.length : Int) < (n : Int)) = true := by simp; omega
  clear hcell hm hx0
  have hB0 := bnextA (bnextA (Below.refl w.heap.size w) (.cells #[.int .u8 (ty.toNat : Int), .int .u8 (co.toNat : Int), .int .u32 (re.toNat : Int), .slice (some ⟨b0, off, none⟩) xs.length c] 44)) (.cells #[.int .u32 0, .int .u32 0, .int .u16 0, .int .u16 0, .int .u8 0] 49)
  have hp0 := (Blk.new w #[.int .u8 (ty.toNat : Int), .int .u8 (co.toNat : Int), .int .u32 (re.toNat : Int), .slice (some ⟨b0, off, none⟩) xs.length c] 44).alloc (.cells #[.int .u32 0, .int .u32 0, .int .u16 0, .int .u16 0, .int .u8 0] 49)
  have hf0 := Blk.new (w.alloc (.cells #[.int .u8 (ty.toNat : Int), .int .u8 (co.toNat : Int), .int .u32 (re.toNat : Int), .slice (some ⟨b0, off, none⟩) xs.length c] 44)) #[.int .u32 0, .int .u32 0, .int .u16 0, .int .u16 0, .int .u8 0] 49
  rw [show (w.alloc (.cells #[.int .u8 (ty.toNat : Int), .int .u8 (co.toNat : Int), .int .u32 (re.toNat : Int), .slice (some ⟨b0, off, none⟩) xs.length c] 44)).heap.size = w.heap.size + 1 by simp] at hf0
  have hr2 := (hr.nextA (.cells #[.int .u8 (ty.toNat : Int), .int .u8 (co.toNat : Int), .int .u32 (re.toNat : Int), .slice (some ⟨b0, off, none⟩) xs.length c] 44)).nextA (.cells #[.int .u32 0, .int .u32 0, .int .u16 0, .int .u16 0, .int .u8 0] 49)
  clear hab
  go_enter Try.func9, Try.ntmps9
  go_wp2_with fail
  refine (HA _).out.mono ?_
  rintro e w1 ⟨rfl, hb⟩
  have hp := hp0.next hb
  have hf := hf0.next hb
  have hB := bnext hB0 hb
  replace hr2 := hr2.next hb
  clear hb hp0 hf0 hB0 HA hr
  obtain ⟨c0, c1, c2, c3, -⟩ := hp.get4
  obtain ⟨g0, g1, g2, g3, g4, k0, k1, k2, k3, k4⟩ := fl_cells hf
  have n0 := (hB.cell (p := ⟨b0, off, none⟩) hB1).trans x0
  go_wp2_with fail
  simp [bodyPost, results, Try.results9, go_sem, *]
  try exact bset5 hB (Nat.le_succ _) _ _ _ _ _

set_option maxHeartbeats 2000000 in
theorem qof_sum (ty co : UInt8) (re : UInt32) (A : Option Addr) (c : Nat) (xs : List UInt8) (w : World) (hr : Rd bv w w.heap.size A c xs) (hab : decide (ty.toNat = 3 ∨ ty.toNat = 11 ∨ ty.toNat = 12) = true) (h20 : 20 ≤ xs.length) (m : Nat) (hm : (xs[0]).toNat = 64 + m) (hm5 : 5 ≤ m) (hm15 : m ≤ 15) (hl : 4 * m ≤ xs.length) (hxl : xs.length ≤ 1000000) (hN : onesN (xs.take (4 * m)) ≠ 65535) :
    Calls Try.prog 9 #[.agg #[.int .u8 (ty.toNat : Int), .int .u8 (co.toNat : Int), .int .u32 (re.toNat : Int), .slice A xs.length c]] w fun e w' => e = .returned (.tuple #[.agg #[.int .u32 0, .int .u32 0, .int .u16 0, .int .u16 0, .int .u8 0], .int .i64 5]) ∧ Below w.heap.size w w' := by
  have hlc := hr.len
  have hcc := hr.cap
  have HA := fun W => Lib.hid (qabout ty co re A xs.length c W true hab)
  obtain ⟨b0, off, hA, hB1, hcell⟩ := byt_at hr (k := 0) (by omega)
  subst hA
  have x0 := hcell 0 (by omega)
  simp only [Nat.add_zero] at x0
  have hx0 := (xs[0]).toNat_lt
  have i0 : (0 : Int) < (xs.length : Int) := by omega
  have i1 : decide ((xs.length : Int) < 20) = false := by simp; omega
  generalize xs[0] = y0 at *
  have d1 : decide ((y0.toNat : Int) < 69) = false := by simp; omega
  have d2 : decide ((79 : Int) < (y0.toNat : Int)) = false := by simp; omega
  have d3 := and_15 y0.toNat hx0
  rw [show y0.toNat % 16 = m by omega] at d3
  have d4 : IntKind.i64.wrap (m : Int) = (m : Int) := by rw [IntKind.wrap_i64]; omega
  obtain ⟨n, hn⟩ : ∃ n, 4 * m = n := ⟨_, rfl⟩
  have d5 : 4 * (m : Int) = (n : Int) := by omega
  have d6 : IntKind.i64.wrap (n : Int) = (n : Int) := by rw [IntKind.wrap_i64]; omega
  rw [hn] at hl hN
  have d7 : decide ((xs.length : Int) < (n : Int)) = false := by simp; omega
  have hcl : (n : Int) ≤ (c : Int) := by omega
  obtain ⟨ts, hts⟩ : ∃ ts, xs.take n = ts := ⟨_, rfl⟩
  have htl : ts.length = n := by rw [← hts]; simp; omega
  rw [hts] at hN
  have HN := fun (_ : Unit) => Lib.hid hN
  have HT := fun (_ : Unit) => Lib.hid htl
  have HTS := fun (_ : Unit) => Lib.hid hts
  clear hcell hm hx0
  have hB0 := bnextA (bnextA (Below.refl w.heap.size w) (.cells #[.int .u8 (ty.toNat : Int), .int .u8 (co.toNat : Int), .int .u32 (re.toNat : Int), .slice (some ⟨b0, off, none⟩) xs.length c] 44)) (.cells #[.int .u32 0, .int .u32 0, .int .u16 0, .int .u16 0, .int .u8 0] 49)
  have hp0 := (Blk.new w #[.int .u8 (ty.toNat : Int), .int .u8 (co.toNat : Int), .int .u32 (re.toNat : Int), .slice (some ⟨b0, off, none⟩) xs.length c] 44).alloc (.cells #[.int .u32 0, .int .u32 0, .int .u16 0, .int .u16 0, .int .u8 0] 49)
  have hf0 := Blk.new (w.alloc (.cells #[.int .u8 (ty.toNat : Int), .int .u8 (co.toNat : Int), .int .u32 (re.toNat : Int), .slice (some ⟨b0, off, none⟩) xs.length c] 44)) #[.int .u32 0, .int .u32 0, .int .u16 0, .int .u16 0, .int .u8 0] 49
  rw [show (w.alloc (.cells #[.int .u8 (ty.toNat : Int), .int .u8 (co.toNat : Int), .int .u32 (re.toNat : Int), .slice (some ⟨b0, off, none⟩) xs.length c] 44)).heap.size = w.heap.size + 1 by simp] at hf0
  have hr2 := (hr.nextA (.cells #[.int .u8 (ty.toNat : Int), .int .u8 (co.toNat : Int), .int .u32 (re.toNat : Int), .slice (some ⟨b0, off, none⟩) xs.length c] 44)).nextA (.cells #[.int .u32 0, .int .u32 0, .int .u16 0, .int .u16 0, .int .u8 0] 49)
  clear hab
  go_enter Try.func9, Try.ntmps9
  go_wp2_with fail
  refine (HA _).out.mono ?_
  rintro e w1 ⟨rfl, hb⟩
  have hp := hp0.next hb
  have hf := hf0.next hb
  have hB := bnext hB0 hb
  replace hr2 := hr2.next hb
  clear hb hp0 hf0 hB0 HA hr
  obtain ⟨c0, c1, c2, c3, -⟩ := hp.get4
  obtain ⟨g0, g1, g2, g3, g4, k0, k1, k2, k3, k4⟩ := fl_cells hf
  have n0 := (hB.cell (p := ⟨b0, off, none⟩) hB1).trans x0
  have hrt := hr2.take n
  rw [(HTS ()).out] at hrt
  go_wp2_with fail
  have hP : Parts (w1.alloc (.cells #[.slice (some ⟨b0, off, none⟩) n c] 34)) w1.heap.size w1.heap.size [ts] := by
    have h := parts_lit (.cons hrt .nil) #[.slice (some ⟨b0, off, none⟩) ts.length c] rfl 34
    rwa [(HT ()).out] at h
  refine (sright_no _ _ _ 1 [ts] hP rfl (by omega) (by omega) (by simp [(HT ()).out]; omega) (by simpa using (HN ()).out)).mono ?_
  rintro e w2 ⟨rfl, hb⟩
  replace hf := (hf.alloc (.cells #[.slice (some ⟨b0, off, none⟩) n c] 34)).next hb
  replace hB := bnext (bnextA hB (.cells #[.slice (some ⟨b0, off, none⟩) n c] 34)) hb
  replace hr2 := (hr2.nextA (.cells #[.slice (some ⟨b0, off, none⟩) n c] 34)).next hb
  clear hP hrt hb c0 c1 c2 c3 g0 g1 g2 g3 g4 k0 k1 k2 k3 k4 n0
  obtain ⟨g0, g1, g2, g3, g4, k0, k1, k2, k3, k4⟩ := fl_cells hf
  go_wp2_with fail
  simp [bodyPost, results, Try.results9, go_sem, *]
  try exact bset5 hB (Nat.le_succ _) _ _ _ _ _

set_option maxHeartbeats 2000000 in
theorem qof_go (ty co : UInt8) (re : UInt32) (A : Option Addr) (c : Nat) (xs : List UInt8) (w : World) (hr : Rd bv w w.heap.size A c xs) (hab : decide (ty.toNat = 3 ∨ ty.toNat = 11 ∨ ty.toNat = 12) = true) (h20 : 20 ≤ xs.length) (m : Nat) (hm : (xs[0]).toNat = 64 + m) (hm5 : 5 ≤ m) (hm15 : m ≤ 15) (hl : 4 * m ≤ xs.length) (hxl : xs.length ≤ 1000000) (hN : onesN (xs.take (4 * m)) = 65535) (fl : Nat) (hfl : beN ((xs.drop 6).take 2) = fl) (M : Bool) (hM : decide (fl / 8192 % 2 = 1) = M) (fo : UInt16) (hfo : fl % 8192 = fo.toNat) (pr : UInt8) (h9 : xs[9] = pr) (s d : UInt32) (hs : beN ((xs.drop 12).take 4) = s.toNat) (hd : beN ((xs.drop 16).take 4) = d.toNat) (f0 f1 f2 f3 f4 er : Int)
    (HF : ∀ A' c' W, Rd bv W W.heap.size A' c' (xs.drop (4 * m)) → Hid (Calls Try.prog 27 #[.agg #[.int .u8 0, .int .u16 0, .bool false, .bool M, .int .u16 (fo.toNat : Int), .int .u8 0, .int .u8 (pr.toNat : Int), .int .u32 (s.toNat : Int), .int .u32 (d.toNat : Int), .slice none 0 0, .slice A' (xs.drop (4 * m)).length c']] W fun e w' => e = .returned (.tuple #[.agg #[.int .u32 f0, .int .u32 f1, .int .u16 f2, .int .u16 f3, .int .u8 f4], .int .i64 er]) ∧ Below W.heap.size W w')) :
    Calls Try.prog 9 #[.agg #[.int .u8 (ty.toNat : Int), .int .u8 (co.toNat : Int), .int .u32 (re.toNat : Int), .slice A xs.length c]] w fun e w' => e = .returned (.tuple #[.agg #[.int .u32 f0, .int .u32 f1, .int .u16 f2, .int .u16 f3, .int .u8 f4], .int .i64 er]) ∧ Below w.heap.size w w' := by
  have hlc := hr.len
  have hcc := hr.cap
  have HA := fun W => Lib.hid (qabout ty co re A xs.length c W true hab)
  obtain ⟨b0, off, hA, hB1, hcell⟩ := byt_at hr (k := 0) (by omega)
  subst hA
  have x0 := hcell 0 (by omega)
  simp only [Nat.add_zero] at x0
  have hx0 := (xs[0]).toNat_lt
  have i0 : (0 : Int) < (xs.length : Int) := by omega
  have i1 : decide ((xs.length : Int) < 20) = false := by simp; omega
  generalize xs[0] = y0 at *
  have d1 : decide ((y0.toNat : Int) < 69) = false := by simp; omega
  have d2 : decide ((79 : Int) < (y0.toNat : Int)) = false := by simp; omega
  have d3 := and_15 y0.toNat hx0
  rw [show y0.toNat % 16 = m by omega] at d3
  have d4 : IntKind.i64.wrap (m : Int) = (m : Int) := by rw [IntKind.wrap_i64]; omega
  obtain ⟨n, hn⟩ : ∃ n, 4 * m = n := ⟨_, rfl⟩
  have d5 : 4 * (m : Int) = (n : Int) := by omega
  have d6 : IntKind.i64.wrap (n : Int) = (n : Int) := by rw [IntKind.wrap_i64]; omega
  have HBG := fun W (h : Rd bv W W.heap.size (some ⟨b0, off, none⟩) c xs) => Lib.hid (qbegun_any (some ⟨b0, off, none⟩) c xs W h n (by omega) (by omega) hxl fl hfl M hM fo hfo pr h9 s d hs hd)
  obtain ⟨LL, hLL⟩ : ∃ LL, xs.drop n = LL := ⟨_, rfl⟩
  rw [hn, hLL] at HF
  have HLL := Lib.hid hLL
  rw [hn] at hl hN
  have d7 : decide ((xs.length : Int) < (n : Int)) = false := by simp; omega
  have hcl : (n : Int) ≤ (c : Int) := by omega
  obtain ⟨ts, hts⟩ : ∃ ts, xs.take n = ts := ⟨_, rfl⟩
  have htl : ts.length = n := by rw [← hts]; simp; omega
  rw [hts] at hN
  have HN := fun (_ : Unit) => Lib.hid hN
  have HT := fun (_ : Unit) => Lib.hid htl
  have HTS := fun (_ : Unit) => Lib.hid hts
  clear hfl hM hfo h9 hs hd hLL
  clear hcell hm hx0
  have hB0 := bnextA (bnextA (Below.refl w.heap.size w) (.cells #[.int .u8 (ty.toNat : Int), .int .u8 (co.toNat : Int), .int .u32 (re.toNat : Int), .slice (some ⟨b0, off, none⟩) xs.length c] 44)) (.cells #[.int .u32 0, .int .u32 0, .int .u16 0, .int .u16 0, .int .u8 0] 49)
  have hp0 := (Blk.new w #[.int .u8 (ty.toNat : Int), .int .u8 (co.toNat : Int), .int .u32 (re.toNat : Int), .slice (some ⟨b0, off, none⟩) xs.length c] 44).alloc (.cells #[.int .u32 0, .int .u32 0, .int .u16 0, .int .u16 0, .int .u8 0] 49)
  have hf0 := Blk.new (w.alloc (.cells #[.int .u8 (ty.toNat : Int), .int .u8 (co.toNat : Int), .int .u32 (re.toNat : Int), .slice (some ⟨b0, off, none⟩) xs.length c] 44)) #[.int .u32 0, .int .u32 0, .int .u16 0, .int .u16 0, .int .u8 0] 49
  rw [show (w.alloc (.cells #[.int .u8 (ty.toNat : Int), .int .u8 (co.toNat : Int), .int .u32 (re.toNat : Int), .slice (some ⟨b0, off, none⟩) xs.length c] 44)).heap.size = w.heap.size + 1 by simp] at hf0
  have hr2 := (hr.nextA (.cells #[.int .u8 (ty.toNat : Int), .int .u8 (co.toNat : Int), .int .u32 (re.toNat : Int), .slice (some ⟨b0, off, none⟩) xs.length c] 44)).nextA (.cells #[.int .u32 0, .int .u32 0, .int .u16 0, .int .u16 0, .int .u8 0] 49)
  clear hab
  go_enter Try.func9, Try.ntmps9
  go_wp2_with fail
  refine (HA _).out.mono ?_
  rintro e w1 ⟨rfl, hb⟩
  have hp := hp0.next hb
  have hf := hf0.next hb
  have hB := bnext hB0 hb
  replace hr2 := hr2.next hb
  clear hb hp0 hf0 hB0 HA hr
  obtain ⟨c0, c1, c2, c3, -⟩ := hp.get4
  obtain ⟨g0, g1, g2, g3, g4, k0, k1, k2, k3, k4⟩ := fl_cells hf
  have n0 := (hB.cell (p := ⟨b0, off, none⟩) hB1).trans x0
  have hrt := hr2.take n
  rw [(HTS ()).out] at hrt
  go_wp2_with fail
  have hP : Parts (w1.alloc (.cells #[.slice (some ⟨b0, off, none⟩) n c] 34)) w1.heap.size w1.heap.size [ts] := by
    have h := parts_lit (.cons hrt .nil) #[.slice (some ⟨b0, off, none⟩) ts.length c] rfl 34
    rwa [(HT ()).out] at h
  refine (sright_yes _ _ _ 1 [ts] hP rfl (by omega) (by omega) (by simp [(HT ()).out]; omega) (by simpa using (HN ()).out)).mono ?_
  rintro e w2 ⟨rfl, hb⟩
  replace hf := (hf.alloc (.cells #[.slice (some ⟨b0, off, none⟩) n c] 34)).next hb
  replace hB := bnext (bnextA hB (.cells #[.slice (some ⟨b0, off, none⟩) n c] 34)) hb
  replace hr2 := (hr2.nextA (.cells #[.slice (some ⟨b0, off, none⟩) n c] 34)).next hb
  clear hP hrt hb c0 c1 c2 c3 g0 g1 g2 g3 g4 k0 k1 k2 k3 k4 n0
  obtain ⟨g0, g1, g2, g3, g4, k0, k1, k2, k3, k4⟩ := fl_cells hf
  go_wp2_with fail
  refine (HBG _ hr2).out.mono ?_
  rintro e w3 ⟨L, A', c', rfl, HL, hr3, hb⟩
  have hLe : L = LL := HL.out.trans HLL.out
  subst hLe
  replace hf := hf.next hb
  replace hB := bnext hB hb
  clear hb g0 g1 g2 g3 g4 k0 k1 k2 k3 k4 HBG hr2 HL
  go_wp2_with fail
  refine (HF A' c' _ hr3).out.mono ?_
  rintro e w4 ⟨rfl, hb⟩
  replace hf := hf.next hb
  replace hB := bnext hB hb
  clear hb hr3 HF
  obtain ⟨g0, g1, g2, g3, g4, k0, k1, k2, k3, k4⟩ := fl_cells hf
  go_wp2_with fail
  simp [bodyPost, results, Try.results9, go_sem, *]
  try exact bset5 hB (Nat.le_succ _) _ _ _ _ _

end Go.Proofs.Ytpibempfhgaomaa
