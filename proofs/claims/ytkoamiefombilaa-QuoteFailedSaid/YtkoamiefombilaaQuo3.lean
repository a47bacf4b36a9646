/- Contracts of the reference's Of for package quote. -/
import Derived.Test.YtkoamiefombilaaQuo2
import Derived.Test.YtkoamiefombilaaIp5
namespace Go.Proofs.Ytkoamiefombilaa
open Go.RowKit

/-- Which of three numbers a first byte is. -/
def Tells (ty : UInt8) : Prop := (((ty.toNat : Int) != 3) = false) ∨ (((ty.toNat : Int) != 3) = true ∧ ((ty.toNat : Int) != 11) = false) ∨ (((ty.toNat : Int) != 3) = true ∧ ((ty.toNat : Int) != 11) = true ∧ ((ty.toNat : Int) != 12) = false)
theorem tells_of (ty : UInt8) (h : decide (ty.toNat = 3 ∨ ty.toNat = 11 ∨ ty.toNat = 12) = true) : Tells ty := by
  rcases of_decide_eq_true h with h | h | h <;> rw [Tells, h] <;> simp
theorem tells_not (ty : UInt8) (h : decide (ty.toNat = 3 ∨ ty.toNat = 11 ∨ ty.toNat = 12) = false) : ((ty.toNat : Int) != 3) = true ∧ ((ty.toNat : Int) != 11) = true ∧ ((ty.toNat : Int) != 12) = true := by
  have := of_decide_eq_false h
  simp
  omega

set_option maxHeartbeats 4000000 in
theorem rq_state (ty co : UInt8) (re : UInt32) (A : Option Addr) (c : Nat) (xs : List UInt8) (w : World) (hr : Rd bv w w.heap.size A c xs) (hab : decide (ty.toNat = 3 ∨ ty.toNat = 11 ∨ ty.toNat = 12) = false) :
    Calls Try.prog 12 #[.agg #[.int .u8 (ty.toNat : Int), .int .u8 (co.toNat : Int), .int .u32 (re.toNat : Int), .slice A xs.length c]] w fun e w' => e = .returned (.tuple #[.agg #[.int .u32 0, .int .u32 0, .int .u16 0, .int .u16 0, .int .u8 0], .int .i64 10]) ∧ Below w.heap.size w w' := by
  have hlc := hr.len
  have hcc := hr.cap
  have hB := bnextA (bnextA (Below.refl w.heap.size w) (.cells #[.int .u8 (ty.toNat : Int), .int .u8 (co.toNat : Int), .int .u32 (re.toNat : Int), .slice A xs.length c] 25)) (.cells #[.int .u32 0, .int .u32 0, .int .u16 0, .int .u16 0, .int .u8 0] 29)
  have hp := (Blk.new w #[.int .u8 (ty.toNat : Int), .int .u8 (co.toNat : Int), .int .u32 (re.toNat : Int), .slice A xs.length c] 25).alloc (.cells #[.int .u32 0, .int .u32 0, .int .u16 0, .int .u16 0, .int .u8 0] 29)
  have hf := Blk.new (w.alloc (.cells #[.int .u8 (ty.toNat : Int), .int .u8 (co.toNat : Int), .int .u32 (re.toNat : Int), .slice A xs.length c] 25)) #[.int .u32 0, .int .u32 0, .int .u16 0, .int .u16 0, .int .u8 0] 29
  rw [show (w.alloc (.cells #[.int .u8 (ty.toNat : Int), .int .u8 (co.toNat : Int), .int .u32 (re.toNat : Int), .slice A xs.length c] 25)).heap.size = w.heap.size + 1 by simp] at hf
  obtain ⟨h3, h11, h12⟩ := tells_not ty hab
  all_goals
    go_enter Try.func12, Try.ntmps12
    go_wp2_with fail
    simp [bodyPost, results, Try.results12, go_sem, *]
    try exact bnextA (bnextA (Below.refl _ _) _) _

set_option maxHeartbeats 4000000 in
theorem rq_short (ty co : UInt8) (re : UInt32) (A : Option Addr) (c : Nat) (xs : List UInt8) (w : World) (hr : Rd bv w w.heap.size A c xs) (hab : Tells ty) (h20 : xs.length < 20) :
    Calls Try.prog 12 #[.agg #[.int .u8 (ty.toNat : Int), .int .u8 (co.toNat : Int), .int .u32 (re.toNat : Int), .slice A xs.length c]] w fun e w' => e = .returned (.tuple #[.agg #[.int .u32 0, .int .u32 0, .int .u16 0, .int .u16 0, .int .u8 0], .int .i64 4]) ∧ Below w.heap.size w w' := by
  have hlc := hr.len
  have hcc := hr.cap
  have i1 : decide ((xs.length : Int) < 20) = true := by simp; omega
  have hB := bnextA (bnextA (Below.refl w.heap.size w) (.cells #[.int .u8 (ty.toNat : Int), .int .u8 (co.toNat : Int), .int .u32 (re.toNat : Int), .slice A xs.length c] 25)) (.cells #[.int .u32 0, .int .u32 0, .int .u16 0, .int .u16 0, .int .u8 0] 29)
  have hp := (Blk.new w #[.int .u8 (ty.toNat : Int), .int .u8 (co.toNat : Int), .int .u32 (re.toNat : Int), .slice A xs.length c] 25).alloc (.cells #[.int .u32 0, .int .u32 0, .int .u16 0, .int .u16 0, .int .u8 0] 29)
  have hf := Blk.new (w.alloc (.cells #[.int .u8 (ty.toNat : Int), .int .u8 (co.toNat : Int), .int .u32 (re.toNat : Int), .slice A xs.length c] 25)) #[.int .u32 0, .int .u32 0, .int .u16 0, .int .u16 0, .int .u8 0] 29
  rw [show (w.alloc (.cells #[.int .u8 (ty.toNat : Int), .int .u8 (co.toNat : Int), .int .u32 (re.toNat : Int), .slice A xs.length c] 25)).heap.size = w.heap.size + 1 by simp] at hf
  rcases hab with h3 | ⟨h3, h11⟩ | ⟨h3, h11, h12⟩
  all_goals
    go_enter Try.func12, Try.ntmps12
    go_wp2_with fail
    simp [bodyPost, results, Try.results12, go_sem, *]
    try exact bnextA (bnextA (Below.refl _ _) _) _

set_option maxHeartbeats 4000000 in
theorem rq_form0 (ty co : UInt8) (re : UInt32) (A : Option Addr) (c : Nat) (xs : List UInt8) (w : World) (hr : Rd bv w w.heap.size A c xs) (hab : Tells ty) (h20 : 20 ≤ xs.length) (hm : (xs[0]).toNat / 16 ≠ 4) :
    Calls Try.prog 12 #[.agg #[.int .u8 (ty.toNat : Int), .int .u8 (co.toNat : Int), .int .u32 (re.toNat : Int), .slice A xs.length c]] w fun e w' => e = .returned (.tuple #[.agg #[.int .u32 0, .int .u32 0, .int .u16 0, .int .u16 0, .int .u8 0], .int .i64 3]) ∧ Below w.heap.size w w' := by
  have hlc := hr.len
  have hcc := hr.cap
  obtain ⟨b0, off, hA, hB1, hcell⟩ := byt_at hr (k := 0) (by omega)
  subst hA
  have x0 := hcell 0 (by omega)
  simp only [Nat.add_zero] at x0
  have hx0 := (xs[0]).toNat_lt
  have i0 : (0 : Int) < (xs.length : Int) := by omega
  have i1 : decide ((xs.length : Int) < 20) = false := by simp; omega
  generalize xs[0] = y0 at *
  have q0 : (y0.toNat : Int).tmod 16 = ((y0.toNat % 16 : Nat) : Int) := by rw [Int.tmod_eq_emod_of_nonneg (by omega)]; rfl
  obtain ⟨lo, hlo⟩ : ∃ lo, y0.toNat % 16 = lo := ⟨_, rfl⟩
  rw [hlo] at q0
  obtain ⟨hi, hhi⟩ : ∃ hi, y0.toNat / 16 = hi := ⟨_, rfl⟩
  have dq : IntKind.u8.wrap ((y0.toNat : Int) / 16) = (hi : Int) := by rw [IntKind.wrap_u8]; omega
  have d1 : ((hi : Int) != 4) = true := by simp; omega
  clear hcell hm hx0 hlo hhi q0
  have hB := bnextA (bnextA (Below.refl w.heap.size w) (.cells #[.int .u8 (ty.toNat : Int), .int .u8 (co.toNat : Int), .int .u32 (re.toNat : Int), .slice (some ⟨b0, off, none⟩) xs.length c] 25)) (.cells #[.int .u32 0, .int .u32 0, .int .u16 0, .int .u16 0, .int .u8 0] 29)
  have hp := (Blk.new w #[.int .u8 (ty.toNat : Int), .int .u8 (co.toNat : Int), .int .u32 (re.toNat : Int), .slice (some ⟨b0, off, none⟩) xs.length c] 25).alloc (.cells #[.int .u32 0, .int .u32 0, .int .u16 0, .int .u16 0, .int .u8 0] 29)
  have hf := Blk.new (w.alloc (.cells #[.int .u8 (ty.toNat : Int), .int .u8 (co.toNat : Int), .int .u32 (re.toNat : Int), .slice (some ⟨b0, off, none⟩) xs.length c] 25)) #[.int .u32 0, .int .u32 0, .int .u16 0, .int .u16 0, .int .u8 0] 29
  rw [show (w.alloc (.cells #[.int .u8 (ty.toNat : Int), .int .u8 (co.toNat : Int), .int .u32 (re.toNat : Int), .slice (some ⟨b0, off, none⟩) xs.length c] 25)).heap.size = w.heap.size + 1 by simp] at hf
  rcases hab with h3 | ⟨h3, h11⟩ | ⟨h3, h11, h12⟩
  all_goals
    go_enter Try.func12, Try.ntmps12
    have n0 := (hB.cell (p := ⟨b0, off, none⟩) hB1).trans x0
    go_wp2_with fail
    simp [bodyPost, results, Try.results12, go_sem, *]
    try exact bnextA (bnextA (Below.refl _ _) _) _

set_option maxHeartbeats 4000000 in
theorem rq_form1 (ty co : UInt8) (re : UInt32) (A : Option Addr) (c : Nat) (xs : List UInt8) (w : World) (hr : Rd bv w w.heap.size A c xs) (hab : Tells ty) (h20 : 20 ≤ xs.length) (hm : (xs[0]).toNat / 16 = 4) (hm2 : (xs[0]).toNat % 16 < 5) :
    Calls Try.prog 12 #[.agg #[.int .u8 (ty.toNat : Int), .int .u8 (co.toNat : Int), .int .u32 (re.toNat : Int), .slice A xs.length c]] w fun e w' => e = .returned (.tuple #[.agg #[.int .u32 0, .int .u32 0, .int .u16 0, .int .u16 0, .int .u8 0], .int .i64 3]) ∧ Below w.heap.size w w' := by
  have hlc := hr.len
  have hcc := hr.cap
  obtain ⟨b0, off, hA, hB1, hcell⟩ := byt_at hr (k := 0) (by omega)
  subst hA
  have x0 := hcell 0 (by omega)
  simp only [Nat.add_zero] at x0
  have hx0 := (xs[0]).toNat_lt
  have i0 : (0 : Int) < (xs.length : Int) := by omega
  have i1 : decide ((xs.length : Int) < 20) = false := by simp; omega
  generalize xs[0] = y0 at *
  have q0 : (y0.toNat : Int).tmod 16 = ((y0.toNat % 16 : Nat) : Int) := by rw [Int.tmod_eq_emod_of_nonneg (by omega)]; rfl
  obtain ⟨lo, hlo⟩ : ∃ lo, y0.toNat % 16 = lo := ⟨_, rfl⟩
  rw [hlo] at q0
  have dq : IntKind.u8.wrap ((y0.toNat : Int) / 16) = 4 := by rw [IntKind.wrap_u8]; omega
  have d2 : decide ((lo : Int) < 5) = true := by simp; omega
  clear hcell hm hm2 hx0 hlo
  have hB := bnextA (bnextA (Below.refl w.heap.size w) (.cells #[.int .u8 (ty.toNat : Int), .int .u8 (co.toNat : Int), .int .u32 (re.toNat : Int), .slice (some ⟨b0, off, none⟩) xs.length c] 25)) (.cells #[.int .u32 0, .int .u32 0, .int .u16 0, .int .u16 0, .int .u8 0] 29)
  have hp := (Blk.new w #[.int .u8 (ty.toNat : Int), .int .u8 (co.toNat : Int), .int .u32 (re.toNat : Int), .slice (some ⟨b0, off, none⟩) xs.length c] 25).alloc (.cells #[.int .u32 0, .int .u32 0, .int .u16 0, .int .u16 0, .int .u8 0] 29)
  have hf := Blk.new (w.alloc (.cells #[.int .u8 (ty.toNat : Int), .int .u8 (co.toNat : Int), .int .u32 (re.toNat : Int), .slice (some ⟨b0, off, none⟩) xs.length c] 25)) #[.int .u32 0, .int .u32 0, .int .u16 0, .int .u16 0, .int .u8 0] 29
  rw [show (w.alloc (.cells #[.int .u8 (ty.toNat : Int), .int .u8 (co.toNat : Int), .int .u32 (re.toNat : Int), .slice (some ⟨b0, off, none⟩) xs.length c] 25)).heap.size = w.heap.size + 1 by simp] at hf
  rcases hab with h3 | ⟨h3, h11⟩ | ⟨h3, h11, h12⟩
  all_goals
    go_enter Try.func12, Try.ntmps12
    have n0 := (hB.cell (p := ⟨b0, off, none⟩) hB1).trans x0
    go_wp2_with fail
    simp [bodyPost, results, Try.results12, go_sem, *]
    try exact bnextA (bnextA (Below.refl _ _) _) _

set_option maxHeartbeats 4000000 in
theorem rq_long (ty co : UInt8) (re : UInt32) (A : Option Addr) (c : Nat) (xs : List UInt8) (w : World) (hr : Rd bv w w.heap.size A c xs) (hab : Tells ty) (h20 : 20 ≤ xs.length) (m : Nat) (hm : (xs[0]).toNat = 64 + m) (hm5 : 5 ≤ m) (hm15 : m ≤ 15) (hl : xs.length < 4 * m) :
    Calls Try.prog 12 #[.agg #[.int .u8 (ty.toNat : Int), .int .u8 (co.toNat : Int), .int .u32 (re.toNat : Int), .slice A xs.length c]] w fun e w' => e = .returned (.tuple #[.agg #[.int .u32 0, .int .u32 0, .int .u16 0, .int .u16 0, .int .u8 0], .int .i64 4]) ∧ Below w.heap.size w w' := by
  have hlc := hr.len
  have hcc := hr.cap
  obtain ⟨b0, off, hA, hB1, hcell⟩ := byt_at hr (k := 0) (by omega)
  subst hA
  have x0 := hcell 0 (by omega)
  simp only [Nat.add_zero] at x0
  have hx0 := (xs[0]).toNat_lt
  have i0 : (0 : Int) < (xs.length : Int) := by omega
  have i1 : decide ((xs.length : Int) < 20) = false := by simp; omega
  generalize xs[0] = y0 at *
  have q0 : (y0.toNat : Int).tmod 16 = (m : Int) := by rw [Int.tmod_eq_emod_of_nonneg (by omega)]; omega
  have dq : IntKind.u8.wrap ((y0.toNat : Int) / 16) = 4 := by rw [IntKind.wrap_u8]; omega
  have d2 : decide ((m : Int) < 5) = false := by simp; omega
  have d4 : IntKind.i64.wrap (m : Int) = (m : Int) := by rw [IntKind.wrap_i64]; omega
  obtain ⟨n, hn⟩ : ∃ n, 4 * m = n := ⟨_, rfl⟩
  have d5 : (m : Int) * 4 = (n : Int) := by omega
  have d6 : IntKind.i64.wrap (n : Int) = (n : Int) := by rw [IntKind.wrap_i64]; omega
  rw [hn] at hl
  have d7 : decide ((xs.length : Int) < (n : Int)) = true := by simp; omega
  clear hcell hm hx0
  have hB := bnextA (bnextA (Below.refl w.heap.size w) (.cells #[.int .u8 (ty.toNat : Int), .int .u8 (co.toNat : Int), .int .u32 (re.toNat : Int), .slice (some ⟨b0, off, none⟩) xs.length c] 25)) (.cells #[.int .u32 0, .int .u32 0, .int .u16 0, .int .u16 0, .int .u8 0] 29)
  have hp := (Blk.new w #[.int .u8 (ty.toNat : Int), .int .u8 (co.toNat : Int), .int .u32 (re.toNat : Int), .slice (some ⟨b0, off, none⟩) xs.length c] 25).alloc (.cells #[.int .u32 0, .int .u32 0, .int .u16 0, .int .u16 0, .int .u8 0] 29)
  have hf := Blk.new (w.alloc (.cells #[.int .u8 (ty.toNat : Int), .int .u8 (co.toNat : Int), .int .u32 (re.toNat : Int), .slice (some ⟨b0, off, none⟩) xs.length c] 25)) #[.int .u32 0, .int .u32 0, .int .u16 0, .int .u16 0, .int .u8 0] 29
  rw [show (w.alloc (.cells #[.int .u8 (ty.toNat : Int), .int .u8 (co.toNat : Int), .int .u32 (re.toNat : Int), .slice (some ⟨b0, off, none⟩) xs.length c] 25)).heap.size = w.heap.size + 1 by simp] at hf
  rcases hab with h3 | ⟨h3, h11⟩ | ⟨h3, h11, h12⟩
  all_goals
    go_enter Try.func12, Try.ntmps12
    have n0 := (hB.cell (p := ⟨b0, off, none⟩) hB1).trans x0
    go_wp2_with fail
    simp [bodyPost, results, Try.results12, go_sem, *]
    try exact bnextA (bnextA (Below.refl _ _) _) _

set_option maxHeartbeats 4000000 in
theorem rq_sum (ty co : UInt8) (re : UInt32) (A : Option Addr) (c : Nat) (xs : List UInt8) (w : World) (hr : Rd bv w w.heap.size A c xs) (hab : Tells ty) (h20 : 20 ≤ xs.length) (m : Nat) (hm : (xs[0]).toNat = 64 + m) (hm5 : 5 ≤ m) (hm15 : m ≤ 15) (hl : 4 * m ≤ xs.length) (hxl : xs.length ≤ 1000000) (hN : onesN (xs.take (4 * m)) ≠ 65535) :
    Calls Try.prog 12 #[.agg #[.int .u8 (ty.toNat : Int), .int .u8 (co.toNat : Int), .int .u32 (re.toNat : Int), .slice A xs.length c]] w fun e w' => e = .returned (.tuple #[.agg #[.int .u32 0, .int .u32 0, .int .u16 0, .int .u16 0, .int .u8 0], .int .i64 5]) ∧ Below w.heap.size w w' := by
  have hlc := hr.len
  have hcc := hr.cap
  obtain ⟨b0, off, hA, hB1, hcell⟩ := byt_at hr (k := 0) (by omega)
  subst hA
  have x0 := hcell 0 (by omega)
  simp only [Nat.add_zero] at x0
  have hx0 := (xs[0]).toNat_lt
  have i0 : (0 : Int) < (xs.length : Int) := by omega
  have i1 : decide ((xs.length : Int) < 20) = false := by simp; omega
  generalize xs[0] = y0 at *
  have q0 : (y0.toNat : Int).tmod 16 = (m : Int) := by rw [Int.tmod_eq_emod_of_nonneg (by omega)]; omega
  have dq : IntKind.u8.wrap ((y0.toNat : Int) / 16) = 4 := by rw [IntKind.wrap_u8]; omega
  have d2 : decide ((m : Int) < 5) = false := by simp; omega
  have d4 : IntKind.i64.wrap (m : Int) = (m : Int) := by rw [IntKind.wrap_i64]; omega
  obtain ⟨n, hn⟩ : ∃ n, 4 * m = n := ⟨_, rfl⟩
  have d5 : (m : Int) * 4 = (n : Int) := by omega
  have d6 : IntKind.i64.wrap (n : Int) = (n : Int) := by rw [IntKind.wrap_i64]; omega
  rw [hn] at hl hN
  have d7 : decide ((xs.length : Int) < (n : Int)) = false := by simp; omega
  have hcl : (n : Int) ≤ (c : Int) := by omega
  obtain ⟨ts, hts⟩ : ∃ ts, xs.take n = ts := ⟨_, rfl⟩
  have htl : ts.length = n := by rw [← hts]; simp; omega
  rw [hts] at hN
  have hrt : Rd bv w w.heap.size (some ⟨b0, off, none⟩) c ts := by rw [← hts]; exact hr.take _
  obtain ⟨N, hNe⟩ : ∃ N, onesN ts = N := ⟨_, rfl⟩
  have hon : ∀ W, Rd bv W W.heap.size (some ⟨b0, off, none⟩) c ts → Hid (Calls Try.prog 47 #[.slice (some ⟨b0, off, none⟩) n c] W fun e w' => e = .returned (.int .i64 (N : Nat)) ∧ W = w') := by
    intro W h
    have := rones_any _ _ ts _ W _ h (by omega) hNe
    rw [htl] at this
    exact this
  rw [hNe] at hN
  have dN : ((N : Int) != 65535) = true := by simp; omega
  replace hrt := (hrt.nextA (.cells #[.int .u8 (ty.toNat : Int), .int .u8 (co.toNat : Int), .int .u32 (re.toNat : Int), .slice (some ⟨b0, off, none⟩) xs.length c] 25)).nextA (.cells #[.int .u32 0, .int .u32 0, .int .u16 0, .int .u16 0, .int .u8 0] 29)
  clear hN hNe htl hts
  clear hcell hm hx0
  have hB := bnextA (bnextA (Below.refl w.heap.size w) (.cells #[.int .u8 (ty.toNat : Int), .int .u8 (co.toNat : Int), .int .u32 (re.toNat : Int), .slice (some ⟨b0, off, none⟩) xs.length c] 25)) (.cells #[.int .u32 0, .int .u32 0, .int .u16 0, .int .u16 0, .int .u8 0] 29)
  have hp := (Blk.new w #[.int .u8 (ty.toNat : Int), .int .u8 (co.toNat : Int), .int .u32 (re.toNat : Int), .slice (some ⟨b0, off, none⟩) xs.length c] 25).alloc (.cells #[.int .u32 0, .int .u32 0, .int .u16 0, .int .u16 0, .int .u8 0] 29)
  have hf := Blk.new (w.alloc (.cells #[.int .u8 (ty.toNat : Int), .int .u8 (co.toNat : Int), .int .u32 (re.toNat : Int), .slice (some ⟨b0, off, none⟩) xs.length c] 25)) #[.int .u32 0, .int .u32 0, .int .u16 0, .int .u16 0, .int .u8 0] 29
  rw [show (w.alloc (.cells #[.int .u8 (ty.toNat : Int), .int .u8 (co.toNat : Int), .int .u32 (re.toNat : Int), .slice (some ⟨b0, off, none⟩) xs.length c] 25)).heap.size = w.heap.size + 1 by simp] at hf
  rcases hab with h3 | ⟨h3, h11⟩ | ⟨h3, h11, h12⟩
  all_goals
    go_enter Try.func12, Try.ntmps12
    have n0 := (hB.cell (p := ⟨b0, off, none⟩) hB1).trans x0
    go_wp2_with fail
    refine (hon _ hrt).out.mono ?_
    rintro e w1 ⟨rfl, rfl⟩
    clear hon hrt
    go_wp2_with fail
    simp [bodyPost, results, Try.results12, go_sem, *]
    try exact bnextA (bnextA (Below.refl _ _) _) _

set_option maxHeartbeats 4000000 in
theorem rq_range (ty co : UInt8) (re : UInt32) (A : Option Addr) (c : Nat) (xs : List UInt8) (w : World) (hr : Rd bv w w.heap.size A c xs) (hab : Tells ty) (h20 : 20 ≤ xs.length) (m : Nat) (hm : (xs[0]).toNat = 64 + m) (hm5 : 5 ≤ m) (hm15 : m ≤ 15) (hl : 4 * m ≤ xs.length) (hxl : xs.length ≤ 1000000) (hN : onesN (xs.take (4 * m)) = 65535) (fl : Nat) (hfl : beN ((xs.drop 6).take 2) = fl) (hw : fl % 16384 ≠ 0) :
    Calls Try.prog 12 #[.agg #[.int .u8 (ty.toNat : Int), .int .u8 (co.toNat : Int), .int .u32 (re.toNat : Int), .slice A xs.length c]] w fun e w' => e = .returned (.tuple #[.agg #[.int .u32 0, .int .u32 0, .int .u16 0, .int .u16 0, .int .u8 0], .int .i64 11]) ∧ Below w.heap.size w w' := by
  have hlc := hr.len
  have hcc := hr.cap
  obtain ⟨b0, off, hA, hB1, hcell⟩ := byt_at hr (k := 0) (by omega)
  subst hA
  have x0 := hcell 0 (by omega)
  simp only [Nat.add_zero] at x0
  have hx0 := (xs[0]).toNat_lt
  have i0 : (0 : Int) < (xs.length : Int) := by omega
  have i1 : decide ((xs.length : Int) < 20) = false := by simp; omega
  generalize xs[0] = y0 at *
  have q0 : (y0.toNat : Int).tmod 16 = (m : Int) := by rw [Int.tmod_eq_emod_of_nonneg (by omega)]; omega
  have dq : IntKind.u8.wrap ((y0.toNat : Int) / 16) = 4 := by rw [IntKind.wrap_u8]; omega
  have d2 : decide ((m : Int) < 5) = false := by simp; omega
  have d4 : IntKind.i64.wrap (m : Int) = (m : Int) := by rw [IntKind.wrap_i64]; omega
  obtain ⟨n, hn⟩ : ∃ n, 4 * m = n := ⟨_, rfl⟩
  have d5 : (m : Int) * 4 = (n : Int) := by omega
  have d6 : IntKind.i64.wrap (n : Int) = (n : Int) := by rw [IntKind.wrap_i64]; omega
  rw [hn] at hl hN
  have d7 : decide ((xs.length : Int) < (n : Int)) = false := by simp; omega
  have hcl : (n : Int) ≤ (c : Int) := by omega
  obtain ⟨ts, hts⟩ : ∃ ts, xs.take n = ts := ⟨_, rfl⟩
  have htl : ts.length = n := by rw [← hts]; simp; omega
  rw [hts] at hN
  have hrt : Rd bv w w.heap.size (some ⟨b0, off, none⟩) c ts := by rw [← hts]; exact hr.take _
  obtain ⟨N, hNe⟩ : ∃ N, onesN ts = N := ⟨_, rfl⟩
  have hon : ∀ W, Rd bv W W.heap.size (some ⟨b0, off, none⟩) c ts → Hid (Calls Try.prog 47 #[.slice (some ⟨b0, off, none⟩) n c] W fun e w' => e = .returned (.int .i64 (N : Nat)) ∧ W = w') := by
    intro W h
    have := rones_any _ _ ts _ W _ h (by omega) hNe
    rw [htl] at this
    exact this
  rw [hNe] at hN
  have dN : ((N : Int) != 65535) = false := by simp; omega
  replace hrt := (hrt.nextA (.cells #[.int .u8 (ty.toNat : Int), .int .u8 (co.toNat : Int), .int .u32 (re.toNat : Int), .slice (some ⟨b0, off, none⟩) xs.length c] 25)).nextA (.cells #[.int .u32 0, .int .u32 0, .int .u16 0, .int .u16 0, .int .u8 0] 29)
  clear hN hNe htl hts
  have hfl2 := two_of xs 6 fl (by omega) hfl
  have i6 : (6 : Int) < (xs.length : Int) := by omega
  have i7 : (7 : Int) < (xs.length : Int) := by omega
  have i9 : (9 : Int) < (xs.length : Int) := by omega
  have hx6 := (xs[6]).toNat_lt
  have hx7 := (xs[7]).toNat_lt
  have z6 := hcell 6 (by omega)
  have z7 := hcell 7 (by omega)
  have z9 := hcell 9 (by omega)
  have t0 : (fl : Int).tmod 16384 = ((fl % 16384 : Nat) : Int) := by rw [Int.tmod_eq_emod_of_nonneg (by omega)]; rfl
  have tw : (((fl % 16384 : Nat) : Int) != 0) = true := by simp; omega
  obtain ⟨fr, hfr⟩ : ∃ fr, fl % 16384 = fr := ⟨_, rfl⟩
  rw [hfr] at t0 tw
  have d8 : (xs[6].toNat : Int) * 256 + (xs[7].toNat : Int) = (fl : Int) := hfl2
  have hfl16 : fl ≤ 65535 := by omega
  generalize xs[6] = y6 at *
  generalize xs[7] = y7 at *
  clear hfr hfl2 hfl hr
  clear hcell hm hx0
  have hB := bnextA (bnextA (Below.refl w.heap.size w) (.cells #[.int .u8 (ty.toNat : Int), .int .u8 (co.toNat : Int), .int .u32 (re.toNat : Int), .slice (some ⟨b0, off, none⟩) xs.length c] 25)) (.cells #[.int .u32 0, .int .u32 0, .int .u16 0, .int .u16 0, .int .u8 0] 29)
  have hp := (Blk.new w #[.int .u8 (ty.toNat : Int), .int .u8 (co.toNat : Int), .int .u32 (re.toNat : Int), .slice (some ⟨b0, off, none⟩) xs.length c] 25).alloc (.cells #[.int .u32 0, .int .u32 0, .int .u16 0, .int .u16 0, .int .u8 0] 29)
  have hf := Blk.new (w.alloc (.cells #[.int .u8 (ty.toNat : Int), .int .u8 (co.toNat : Int), .int .u32 (re.toNat : Int), .slice (some ⟨b0, off, none⟩) xs.length c] 25)) #[.int .u32 0, .int .u32 0, .int .u16 0, .int .u16 0, .int .u8 0] 29
  rw [show (w.alloc (.cells #[.int .u8 (ty.toNat : Int), .int .u8 (co.toNat : Int), .int .u32 (re.toNat : Int), .slice (some ⟨b0, off, none⟩) xs.length c] 25)).heap.size = w.heap.size + 1 by simp] at hf
  rcases hab with h3 | ⟨h3, h11⟩ | ⟨h3, h11, h12⟩
  all_goals
    go_enter Try.func12, Try.ntmps12
    have n0 := (hB.cell (p := ⟨b0, off, none⟩) hB1).trans x0
    have n6 := (hB.cell (p := ⟨b0, off + 6, none⟩) hB1).trans z6
    have n7 := (hB.cell (p := ⟨b0, off + 7, none⟩) hB1).trans z7
    have n9 := (hB.cell (p := ⟨b0, off + 9, none⟩) hB1).trans z9
    go_wp2_with fail
    refine (hon _ hrt).out.mono ?_
    rintro e w1 ⟨rfl, rfl⟩
    clear hon hrt
    go_wp2_with fail
    go_region
    go_wp2_with fail
    simp [bodyPost, results, Try.results12, go_sem, *]
    try exact (bnextA (bnextA (Below.refl _ _) _) _).drew

set_option maxHeartbeats 4000000 in
theorem rq_form (ty co : UInt8) (re : UInt32) (A : Option Addr) (c : Nat) (xs : List UInt8) (w : World) (hr : Rd bv w w.heap.size A c xs) (hab : Tells ty) (h20 : 20 ≤ xs.length) (m : Nat) (hm : (xs[0]).toNat = 64 + m) (hm5 : 5 ≤ m) (hm15 : m ≤ 15) (hl : 4 * m ≤ xs.length) (hxl : xs.length ≤ 1000000) (hN : onesN (xs.take (4 * m)) = 65535) (fl : Nat) (hfl : beN ((xs.drop 6).take 2) = fl) (hw : fl % 16384 = 0) (pr : UInt8) (h9 : xs[9] = pr) (h6 : pr.toNat ≠ 6) (h17 : pr.toNat ≠ 17) :
    Calls Try.prog 12 #[.agg #[.int .u8 (ty.toNat : Int), .int .u8 (co.toNat : Int), .int .u32 (re.toNat : Int), .slice A xs.length c]] w fun e w' => e = .returned (.tuple #[.agg #[.int .u32 0, .int .u32 0, .int .u16 0, .int .u16 0, .int .u8 0], .int .i64 3]) ∧ Below w.heap.size w w' := by
  have hlc := hr.len
  have hcc := hr.cap
  obtain ⟨b0, off, hA, hB1, hcell⟩ := byt_at hr (k := 0) (by omega)
  subst hA
  have x0 := hcell 0 (by omega)
  simp only [Nat.add_zero] at x0
  have hx0 := (xs[0]).toNat_lt
  have i0 : (0 : Int) < (xs.length : Int) := by omega
  have i1 : decide ((xs.length : Int) < 20) = false := by simp; omega
  generalize xs[0] = y0 at *
  have q0 : (y0.toNat : Int).tmod 16 = (m : Int) := by rw [Int.tmod_eq_emod_of_nonneg (by omega)]; omega
  have dq : IntKind.u8.wrap ((y0.toNat : Int) / 16) = 4 := by rw [IntKind.wrap_u8]; omega
  have d2 : decide ((m : Int) < 5) = false := by simp; omega
  have d4 : IntKind.i64.wrap (m : Int) = (m : Int) := by rw [IntKind.wrap_i64]; omega
  obtain ⟨n, hn⟩ : ∃ n, 4 * m = n := ⟨_, rfl⟩
  have d5 : (m : Int) * 4 = (n : Int) := by omega
  have d6 : IntKind.i64.wrap (n : Int) = (n : Int) := by rw [IntKind.wrap_i64]; omega
  rw [hn] at hl hN
  have d7 : decide ((xs.length : Int) < (n : Int)) = false := by simp; omega
  have hcl : (n : Int) ≤ (c : Int) := by omega
  obtain ⟨ts, hts⟩ : ∃ ts, xs.take n = ts := ⟨_, rfl⟩
  have htl : ts.length = n := by rw [← hts]; simp; omega
  rw [hts] at hN
  have hrt : Rd bv w w.heap.size (some ⟨b0, off, none⟩) c ts := by rw [← hts]; exact hr.take _
  obtain ⟨N, hNe⟩ : ∃ N, onesN ts = N := ⟨_, rfl⟩
  have hon : ∀ W, Rd bv W W.heap.size (some ⟨b0, off, none⟩) c ts → Hid (Calls Try.prog 47 #[.slice (some ⟨b0, off, none⟩) n c] W fun e w' => e = .returned (.int .i64 (N : Nat)) ∧ W = w') := by
    intro W h
    have := rones_any _ _ ts _ W _ h (by omega) hNe
    rw [htl] at this
    exact this
  rw [hNe] at hN
  have dN : ((N : Int) != 65535) = false := by simp; omega
  replace hrt := (hrt.nextA (.cells #[.int .u8 (ty.toNat : Int), .int .u8 (co.toNat : Int), .int .u32 (re.toNat : Int), .slice (some ⟨b0, off, none⟩) xs.length c] 25)).nextA (.cells #[.int .u32 0, .int .u32 0, .int .u16 0, .int .u16 0, .int .u8 0] 29)
  clear hN hNe htl hts
  have hfl2 := two_of xs 6 fl (by omega) hfl
  have i6 : (6 : Int) < (xs.length : Int) := by omega
  have i7 : (7 : Int) < (xs.length : Int) := by omega
  have i9 : (9 : Int) < (xs.length : Int) := by omega
  have hx6 := (xs[6]).toNat_lt
  have hx7 := (xs[7]).toNat_lt
  have z6 := hcell 6 (by omega)
  have z7 := hcell 7 (by omega)
  have z9 := hcell 9 (by omega)
  have t0 : (fl : Int).tmod 16384 = ((fl % 16384 : Nat) : Int) := by rw [Int.tmod_eq_emod_of_nonneg (by omega)]; rfl
  have tw : (((fl % 16384 : Nat) : Int) != 0) = false := by simp; omega
  rw [h9] at z9
  have e6 : ((pr.toNat : Int) != 6) = true := by simp; omega
  have e17 : ((pr.toNat : Int) != 17) = true := by simp; omega
  obtain ⟨fr, hfr⟩ : ∃ fr, fl % 16384 = fr := ⟨_, rfl⟩
  rw [hfr] at t0 tw
  have d8 : (xs[6].toNat : Int) * 256 + (xs[7].toNat : Int) = (fl : Int) := hfl2
  have hfl16 : fl ≤ 65535 := by omega
  generalize xs[6] = y6 at *
  generalize xs[7] = y7 at *
  clear hfr hfl2 hfl hr
  clear hcell hm hx0
  have hB := bnextA (bnextA (Below.refl w.heap.size w) (.cells #[.int .u8 (ty.toNat : Int), .int .u8 (co.toNat : Int), .int .u32 (re.toNat : Int), .slice (some ⟨b0, off, none⟩) xs.length c] 25)) (.cells #[.int .u32 0, .int .u32 0, .int .u16 0, .int .u16 0, .int .u8 0] 29)
  have hp := (Blk.new w #[.int .u8 (ty.toNat : Int), .int .u8 (co.toNat : Int), .int .u32 (re.toNat : Int), .slice (some ⟨b0, off, none⟩) xs.length c] 25).alloc (.cells #[.int .u32 0, .int .u32 0, .int .u16 0, .int .u16 0, .int .u8 0] 29)
  have hf := Blk.new (w.alloc (.cells #[.int .u8 (ty.toNat : Int), .int .u8 (co.toNat : Int), .int .u32 (re.toNat : Int), .slice (some ⟨b0, off, none⟩) xs.length c] 25)) #[.int .u32 0, .int .u32 0, .int .u16 0, .int .u16 0, .int .u8 0] 29
  rw [show (w.alloc (.cells #[.int .u8 (ty.toNat : Int), .int .u8 (co.toNat : Int), .int .u32 (re.toNat : Int), .slice (some ⟨b0, off, none⟩) xs.length c] 25)).heap.size = w.heap.size + 1 by simp] at hf
  rcases hab with h3 | ⟨h3, h11⟩ | ⟨h3, h11, h12⟩
  all_goals
    go_enter Try.func12, Try.ntmps12
    have n0 := (hB.cell (p := ⟨b0, off, none⟩) hB1).trans x0
    have n6 := (hB.cell (p := ⟨b0, off + 6, none⟩) hB1).trans z6
    have n7 := (hB.cell (p := ⟨b0, off + 7, none⟩) hB1).trans z7
    have n9 := (hB.cell (p := ⟨b0, off + 9, none⟩) hB1).trans z9
    go_wp2_with fail
    refine (hon _ hrt).out.mono ?_
    rintro e w1 ⟨rfl, rfl⟩
    clear hon hrt
    go_wp2_with fail
    go_region
    go_wp2_with fail
    simp [bodyPost, results, Try.results12, go_sem, *]
    try exact (bnextA (bnextA (Below.refl _ _) _) _).drew

end Go.Proofs.Ytkoamiefombilaa
