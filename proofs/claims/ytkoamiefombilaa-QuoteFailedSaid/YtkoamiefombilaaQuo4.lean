/- Contracts of the reference's Of for package quote: where it comes to ports. -/
import Derived.Test.YtkoamiefombilaaQuo3
namespace Go.Proofs.Ytkoamiefombilaa
open Go.RowKit

/-- A protocol with ports. -/
def Ported (pr : UInt8) : Prop := (((pr.toNat : Int) != 6) = false) ∨ (((pr.toNat : Int) != 6) = true ∧ ((pr.toNat : Int) != 17) = false)
theorem ported_of (pr : UInt8) (h : pr.toNat = 6 ∨ pr.toNat = 17) : Ported pr := by
  rcases h with h | h <;> rw [Ported, h] <;> simp

set_option maxHeartbeats 8000000 in
theorem rq_none (ty co : UInt8) (re : UInt32) (A : Option Addr) (c : Nat) (xs : List UInt8) (w : World) (hr : Rd bv w w.heap.size A c xs) (hab : Tells ty) (h20 : 20 ≤ xs.length) (m : Nat) (hm : (xs[0]).toNat = 64 + m) (hm5 : 5 ≤ m) (hm15 : m ≤ 15) (hl : 4 * m ≤ xs.length) (hxl : xs.length ≤ 1000000) (hN : onesN (xs.take (4 * m)) = 65535) (fl : Nat) (hfl : beN ((xs.drop 6).take 2) = fl) (hw : fl % 16384 = 0) (pr : UInt8) (h9 : xs[9] = pr) (hpr : Ported pr) (k n2 : Nat) (hk : 4 * m = k) (hk2 : k + 2 = n2) (x y : Nat) (p q : Bool) (hpq : (p && q) = false)
    (HG1 : ∀ W, Rd bv W W.heap.size A c xs → Hid (Calls Try.prog 48 #[.slice A xs.length c, .int .i64 (k : Int), .int .i64 2] W fun e w' => e = .returned (.tuple #[.int .u32 (x : Int), .bool p]) ∧ W = w'))
    (HG2 : ∀ W, Rd bv W W.heap.size A c xs → Hid (Calls Try.prog 48 #[.slice A xs.length c, .int .i64 (n2 : Int), .int .i64 2] W fun e w' => e = .returned (.tuple #[.int .u32 (y : Int), .bool q]) ∧ W = w')) :
    Calls Try.prog 12 #[.agg #[.int .u8 (ty.toNat : Int), .int .u8 (co.toNat : Int), .int .u32 (re.toNat : Int), .slice A xs.length c]] w fun e w' => e = .returned (.tuple #[.agg #[.int .u32 0, .int .u32 0, .int .u16 0, .int .u16 0, .int .u8 0], .int .i64 4]) ∧ Below w.heap.size w w' := by
  have hlc := hr.len
  have hcc := hr.cap
  obtain ⟨b0, off, hA, hB1, hcell⟩ := byt_at hr (k := 0) (by omega)
  subst hA
  have x0 := hcell 0 (by omega)
  simp only [Nat.add_zero] at x0
  have hx0 := (xs[0]).toNat_lt
  have i0 : (0 : Int) < (xs.length : Int) := by omega
  have i1 : decide ((xs.length : Int) < 20) = false := by simp; omega
  generalize xs[0] = y0 at *
  have q0 : (y0.toNat : Int).tmod 16 = (m : Int) := by rw [Int.tmod_eq_emod_of_nonneg (by omega)]; omega
  have dq : IntKind.u8.wrap ((y0.toNat : Int) / 16) = 4 := by rw [IntKind.wrap_u8]; omega
  have d2 : decide ((m : Int) < 5) = false := by simp; omega
  have d4 : IntKind.i64.wrap (m : Int) = (m : Int) := by rw [IntKind.wrap_i64]; omega
  obtain ⟨n, hn⟩ : ∃ n, 4 * m = n := ⟨_, rfl⟩
  have d5 : (m : Int) * 4 = (n : Int) := by omega
  have d6 : IntKind.i64.wrap (n : Int) = (n : Int) := by rw [IntKind.wrap_i64]; omega
  rw [hn] at hl hN
  have d7 : decide ((xs.length : Int) < (n : Int)) = false := by simp; omega
  have hcl : (n : Int) ≤ (c : Int) := by omega
  obtain ⟨ts, hts⟩ : ∃ ts, xs.take n = ts := ⟨_, rfl⟩
  have htl : ts.length = n := by rw [← hts]; simp; omega
  rw [hts] at hN
  have hrt : Rd bv w w.heap.size (some ⟨b0, off, none⟩) c ts := by rw [← hts]; exact hr.take _
  obtain ⟨N, hNe⟩ : ∃ N, onesN ts = N := ⟨_, rfl⟩
  have hon : ∀ W, Rd bv W W.heap.size (some ⟨b0, off, none⟩) c ts → Hid (Calls Try.prog 47 #[.slice (some ⟨b0, off, none⟩) n c] W fun e w' => e = .returned (.int .i64 (N : Nat)) ∧ W = w') := by
    intro W h
    have := rones_any _ _ ts _ W _ h (by omega) hNe
    rw [htl] at this
    exact this
  rw [hNe] at hN
  have dN : ((N : Int) != 65535) = false := by simp; omega
  replace hrt := (hrt.nextA (.cells #[.int .u8 (ty.toNat : Int), .int .u8 (co.toNat : Int), .int .u32 (re.toNat : Int), .slice (some ⟨b0, off, none⟩) xs.length c] 25)).nextA (.cells #[.int .u32 0, .int .u32 0, .int .u16 0, .int .u16 0, .int .u8 0] 29)
  clear hN hNe htl hts
  have hfl2 := two_of xs 6 fl (by omega) hfl
  have i6 : (6 : Int) < (xs.length : Int) := by omega
  have i7 : (7 : Int) < (xs.length : Int) := by omega
  have i9 : (9 : Int) < (xs.length : Int) := by omega
  have hx6 := (xs[6]).toNat_lt
  have hx7 := (xs[7]).toNat_lt
  have z6 := hcell 6 (by omega)
  have z7 := hcell 7 (by omega)
  have z9 := hcell 9 (by omega)
  have t0 : (fl : Int).tmod 16384 = ((fl % 16384 : Nat) : Int) := by rw [Int.tmod_eq_emod_of_nonneg (by omega)]; rfl
  have tw : (((fl % 16384 : Nat) : Int) != 0) = false := by simp; omega
  rw [h9] at z9
  obtain rfl : n = k := by omega
  have d9 : (n : Int) + 2 = (n2 : Int) := by omega
  have d10 : IntKind.i64.wrap (n2 : Int) = (n2 : Int) := by rw [IntKind.wrap_i64]; omega
  have hrr : Rd bv ((w.alloc (.cells #[.int .u8 (ty.toNat : Int), .int .u8 (co.toNat : Int), .int .u32 (re.toNat : Int), .slice (some ⟨b0, off, none⟩) xs.length c] 25)).alloc (.cells #[.int .u32 0, .int .u32 0, .int .u16 0, .int .u16 0, .int .u8 0] 29)).drew ((w.alloc (.cells #[.int .u8 (ty.toNat : Int), .int .u8 (co.toNat : Int), .int .u32 (re.toNat : Int), .slice (some ⟨b0, off, none⟩) xs.length c] 25)).alloc (.cells #[.int .u32 0, .int .u32 0, .int .u16 0, .int .u16 0, .int .u8 0] 29)).drew.heap.size (some ⟨b0, off, none⟩) c xs := (hr.nextA (.cells #[.int .u8 (ty.toNat : Int), .int .u8 (co.toNat : Int), .int .u32 (re.toNat : Int), .slice (some ⟨b0, off, none⟩) xs.length c] 25)).nextA (.cells #[.int .u32 0, .int .u32 0, .int .u16 0, .int .u16 0, .int .u8 0] 29)
  obtain ⟨fr, hfr⟩ : ∃ fr, fl % 16384 = fr := ⟨_, rfl⟩
  rw [hfr] at t0 tw
  have d8 : (xs[6].toNat : Int) * 256 + (xs[7].toNat : Int) = (fl : Int) := hfl2
  have hfl16 : fl ≤ 65535 := by omega
  generalize xs[6] = y6 at *
  generalize xs[7] = y7 at *
  clear hfr hfl2 hfl hr
  clear hcell hm hx0
  have hB := bnextA (bnextA (Below.refl w.heap.size w) (.cells #[.int .u8 (ty.toNat : Int), .int .u8 (co.toNat : Int), .int .u32 (re.toNat : Int), .slice (some ⟨b0, off, none⟩) xs.length c] 25)) (.cells #[.int .u32 0, .int .u32 0, .int .u16 0, .int .u16 0, .int .u8 0] 29)
  have hp := (Blk.new w #[.int .u8 (ty.toNat : Int), .int .u8 (co.toNat : Int), .int .u32 (re.toNat : Int), .slice (some ⟨b0, off, none⟩) xs.length c] 25).alloc (.cells #[.int .u32 0, .int .u32 0, .int .u16 0, .int .u16 0, .int .u8 0] 29)
  have hf := Blk.new (w.alloc (.cells #[.int .u8 (ty.toNat : Int), .int .u8 (co.toNat : Int), .int .u32 (re.toNat : Int), .slice (some ⟨b0, off, none⟩) xs.length c] 25)) #[.int .u32 0, .int .u32 0, .int .u16 0, .int .u16 0, .int .u8 0] 29
  rw [show (w.alloc (.cells #[.int .u8 (ty.toNat : Int), .int .u8 (co.toNat : Int), .int .u32 (re.toNat : Int), .slice (some ⟨b0, off, none⟩) xs.length c] 25)).heap.size = w.heap.size + 1 by simp] at hf
  rcases hab with h3 | ⟨h3, h11⟩ | ⟨h3, h11, h12⟩ <;> rcases hpr with e6 | ⟨e6, e17⟩
  all_goals
    go_enter Try.func12, Try.ntmps12
    have n0 := (hB.cell (p := ⟨b0, off, none⟩) hB1).trans x0
    have n6 := (hB.cell (p := ⟨b0, off + 6, none⟩) hB1).trans z6
    have n7 := (hB.cell (p := ⟨b0, off + 7, none⟩) hB1).trans z7
    have n9 := (hB.cell (p := ⟨b0, off + 9, none⟩) hB1).trans z9
    go_wp2_with fail
    refine (hon _ hrt).out.mono ?_
    rintro e w1 ⟨rfl, rfl⟩
    clear hon hrt
    go_wp2_with fail
    go_region
    go_wp2_with fail
    refine (HG1 _ hrr).out.mono ?_
    rintro e w2 ⟨rfl, rfl⟩
    go_wp2_with fail
    refine (HG2 _ hrr).out.mono ?_
    rintro e w2 ⟨rfl, rfl⟩
    clear HG1 HG2
    cases p
    · go_wp2_with fail
      simp [bodyPost, results, Try.results12, go_sem, *]
      try exact (bnextA (bnextA (Below.refl _ _) _) _).drew
    · obtain rfl : q = false := by simpa using hpq
      go_wp2_with fail
      simp [bodyPost, results, Try.results12, go_sem, *]
      try exact (bnextA (bnextA (Below.refl _ _) _) _).drew

set_option maxHeartbeats 8000000 in
theorem rq_ok (ty co : UInt8) (re : UInt32) (A : Option Addr) (c : Nat) (xs : List UInt8) (w : World) (hr : Rd bv w w.heap.size A c xs) (hab : Tells ty) (h20 : 20 ≤ xs.length) (m : Nat) (hm : (xs[0]).toNat = 64 + m) (hm5 : 5 ≤ m) (hm15 : m ≤ 15) (hl : 4 * m ≤ xs.length) (hxl : xs.length ≤ 1000000) (hN : onesN (xs.take (4 * m)) = 65535) (fl : Nat) (hfl : beN ((xs.drop 6).take 2) = fl) (hw : fl % 16384 = 0) (pr : UInt8) (h9 : xs[9] = pr) (hpr : Ported pr) (k n2 : Nat) (hk : 4 * m = k) (hk2 : k + 2 = n2) (x y : Nat) (s d : UInt32) (hx : x ≤ 65535) (hy : y ≤ 65535)
    (HG1 : ∀ W, Rd bv W W.heap.size A c xs → Hid (Calls Try.prog 48 #[.slice A xs.length c, .int .i64 (k : Int), .int .i64 2] W fun e w' => e = .returned (.tuple #[.int .u32 (x : Int), .bool true]) ∧ W = w'))
    (HG2 : ∀ W, Rd bv W W.heap.size A c xs → Hid (Calls Try.prog 48 #[.slice A xs.length c, .int .i64 (n2 : Int), .int .i64 2] W fun e w' => e = .returned (.tuple #[.int .u32 (y : Int), .bool true]) ∧ W = w'))
    (HG3 : ∀ W, Rd bv W W.heap.size A c xs → Hid (Calls Try.prog 48 #[.slice A xs.length c, .int .i64 12, .int .i64 4] W fun e w' => e = .returned (.tuple #[.int .u32 (s.toNat : Int), .bool true]) ∧ W = w'))
    (HG4 : ∀ W, Rd bv W W.heap.size A c xs → Hid (Calls Try.prog 48 #[.slice A xs.length c, .int .i64 16, .int .i64 4] W fun e w' => e = .returned (.tuple #[.int .u32 (d.toNat : Int), .bool true]) ∧ W = w')) :
    Calls Try.prog 12 #[.agg #[.int .u8 (ty.toNat : Int), .int .u8 (co.toNat : Int), .int .u32 (re.toNat : Int), .slice A xs.length c]] w fun e w' => e = .returned (.tuple #[.agg #[.int .u32 (s.toNat : Int), .int .u32 (d.toNat : Int), .int .u16 (x : Int), .int .u16 (y : Int), .int .u8 (pr.toNat : Int)], .int .i64 0]) ∧ Below w.heap.size w w' := by
  have hlc := hr.len
  have hcc := hr.cap
  obtain ⟨b0, off, hA, hB1, hcell⟩ := byt_at hr (k := 0) (by omega)
  subst hA
  have x0 := hcell 0 (by omega)
  simp only [Nat.add_zero] at x0
  have hx0 := (xs[0]).toNat_lt
  have i0 : (0 : Int) < (xs.length : Int) := by omega
  have i1 : decide ((xs.length : Int) < 20) = false := by simp; omega
  generalize xs[0] = y0 at *
  have q0 : (y0.toNat : Int).tmod 16 = (m : Int) := by rw [Int.tmod_eq_emod_of_nonneg (by omega)]; omega
  have dq : IntKind.u8.wrap ((y0.toNat : Int) / 16) = 4 := by rw [IntKind.wrap_u8]; omega
  have d2 : decide ((m : Int) < 5) = false := by simp; omega
  have d4 : IntKind.i64.wrap (m : Int) = (m : Int) := by rw [IntKind.wrap_i64]; omega
  obtain ⟨n, hn⟩ : ∃ n, 4 * m = n := ⟨_, rfl⟩
  have d5 : (m : Int) * 4 = (n : Int) := by omega
  have d6 : IntKind.i64.wrap (n : Int) = (n : Int) := by rw [IntKind.wrap_i64]; omega
  rw [hn] at hl hN
  have d7 : decide ((xs.length : Int) < (n : Int)) = false := by simp; omega
  have hcl : (n : Int) ≤ (c : Int) := by omega
  obtain ⟨ts, hts⟩ : ∃ ts, xs.take n = ts := ⟨_, rfl⟩
  have htl : ts.length = n := by rw [← hts]; simp; omega
  rw [hts] at hN
  have hrt : Rd bv w w.heap.size (some ⟨b0, off, none⟩) c ts := by rw [← hts]; exact hr.take _
  obtain ⟨N, hNe⟩ : ∃ N, onesN ts = N := ⟨_, rfl⟩
  have hon : ∀ W, Rd bv W W.heap.size (some ⟨b0, off, none⟩) c ts → Hid (Calls Try.prog 47 #[.slice (some ⟨b0, off, none⟩) n c] W fun e w' => e = .returned (.int .i64 (N : Nat)) ∧ W = w') := by
    intro W h
    have := rones_any _ _ ts _ W _ h (by omega) hNe
    rw [htl] at this
    exact this
  rw [hNe] at hN
  have dN : ((N : Int) != 65535) = false := by simp; omega
  replace hrt := (hrt.nextA (.cells #[.int .u8 (ty.toNat : Int), .int .u8 (co.toNat : Int), .int .u32 (re.toNat : Int), .slice (some ⟨b0, off, none⟩) xs.length c] 25)).nextA (.cells #[.int .u32 0, .int .u32 0, .int .u16 0, .int .u16 0, .int .u8 0] 29)
  clear hN hNe htl hts
  have hfl2 := two_of xs 6 fl (by omega) hfl
  have i6 : (6 : Int) < (xs.length : Int) := by omega
  have i7 : (7 : Int) < (xs.length : Int) := by omega
  have i9 : (9 : Int) < (xs.length : Int) := by omega
  have hx6 := (xs[6]).toNat_lt
  have hx7 := (xs[7]).toNat_lt
  have z6 := hcell 6 (by omega)
  have z7 := hcell 7 (by omega)
  have z9 := hcell 9 (by omega)
  have t0 : (fl : Int).tmod 16384 = ((fl % 16384 : Nat) : Int) := by rw [Int.tmod_eq_emod_of_nonneg (by omega)]; rfl
  have tw : (((fl % 16384 : Nat) : Int) != 0) = false := by simp; omega
  rw [h9] at z9
  obtain rfl : n = k := by omega
  have d9 : (n : Int) + 2 = (n2 : Int) := by omega
  have d10 : IntKind.i64.wrap (n2 : Int) = (n2 : Int) := by rw [IntKind.wrap_i64]; omega
  have hrr : Rd bv ((w.alloc (.cells #[.int .u8 (ty.toNat : Int), .int .u8 (co.toNat : Int), .int .u32 (re.toNat : Int), .slice (some ⟨b0, off, none⟩) xs.length c] 25)).alloc (.cells #[.int .u32 0, .int .u32 0, .int .u16 0, .int .u16 0, .int .u8 0] 29)).drew ((w.alloc (.cells #[.int .u8 (ty.toNat : Int), .int .u8 (co.toNat : Int), .int .u32 (re.toNat : Int), .slice (some ⟨b0, off, none⟩) xs.length c] 25)).alloc (.cells #[.int .u32 0, .int .u32 0, .int .u16 0, .int .u16 0, .int .u8 0] 29)).drew.heap.size (some ⟨b0, off, none⟩) c xs := (hr.nextA (.cells #[.int .u8 (ty.toNat : Int), .int .u8 (co.toNat : Int), .int .u32 (re.toNat : Int), .slice (some ⟨b0, off, none⟩) xs.length c] 25)).nextA (.cells #[.int .u32 0, .int .u32 0, .int .u16 0, .int .u16 0, .int .u8 0] 29)
  have u1 : IntKind.u16.wrap (x : Int) = (x : Int) := by simp [IntKind.wrap, IntKind.bits, IntKind.signed]; omega
  have u2 : IntKind.u16.wrap (y : Int) = (y : Int) := by simp [IntKind.wrap, IntKind.bits, IntKind.signed]; omega
  obtain ⟨fr, hfr⟩ : ∃ fr, fl % 16384 = fr := ⟨_, rfl⟩
  rw [hfr] at t0 tw
  have d8 : (xs[6].toNat : Int) * 256 + (xs[7].toNat : Int) = (fl : Int) := hfl2
  have hfl16 : fl ≤ 65535 := by omega
  generalize xs[6] = y6 at *
  generalize xs[7] = y7 at *
  clear hfr hfl2 hfl
  clear hcell hm hx0
  have hB := bnextA (bnextA (Below.refl w.heap.size w) (.cells #[.int .u8 (ty.toNat : Int), .int .u8 (co.toNat : Int), .int .u32 (re.toNat : Int), .slice (some ⟨b0, off, none⟩) xs.length c] 25)) (.cells #[.int .u32 0, .int .u32 0, .int .u16 0, .int .u16 0, .int .u8 0] 29)
  have hp := (Blk.new w #[.int .u8 (ty.toNat : Int), .int .u8 (co.toNat : Int), .int .u32 (re.toNat : Int), .slice (some ⟨b0, off, none⟩) xs.length c] 25).alloc (.cells #[.int .u32 0, .int .u32 0, .int .u16 0, .int .u16 0, .int .u8 0] 29)
  have hf := Blk.new (w.alloc (.cells #[.int .u8 (ty.toNat : Int), .int .u8 (co.toNat : Int), .int .u32 (re.toNat : Int), .slice (some ⟨b0, off, none⟩) xs.length c] 25)) #[.int .u32 0, .int .u32 0, .int .u16 0, .int .u16 0, .int .u8 0] 29
  rw [show (w.alloc (.cells #[.int .u8 (ty.toNat : Int), .int .u8 (co.toNat : Int), .int .u32 (re.toNat : Int), .slice (some ⟨b0, off, none⟩) xs.length c] 25)).heap.size = w.heap.size + 1 by simp] at hf
  rcases hab with h3 | ⟨h3, h11⟩ | ⟨h3, h11, h12⟩ <;> rcases hpr with e6 | ⟨e6, e17⟩
  all_goals
    go_enter Try.func12, Try.ntmps12
    have n0 := (hB.cell (p := ⟨b0, off, none⟩) hB1).trans x0
    have n6 := (hB.cell (p := ⟨b0, off + 6, none⟩) hB1).trans z6
    have n7 := (hB.cell (p := ⟨b0, off + 7, none⟩) hB1).trans z7
    have n9 := (hB.cell (p := ⟨b0, off + 9, none⟩) hB1).trans z9
    go_wp2_with fail
    refine (hon _ hrt).out.mono ?_
    rintro e w1 ⟨rfl, rfl⟩
    clear hon hrt
    go_wp2_with fail
    go_region
    go_wp2_with fail
    refine (HG1 _ hrr).out.mono ?_
    rintro e w2 ⟨rfl, rfl⟩
    go_wp2_with fail
    refine (HG2 _ hrr).out.mono ?_
    rintro e w2 ⟨rfl, rfl⟩
    clear HG1 HG2
    have hfV := hf.drew
    have hBV := hB.drew
    have hrV := hrr
    generalize hV : ((w.alloc (.cells #[.int .u8 (ty.toNat : Int), .int .u8 (co.toNat : Int), .int .u32 (re.toNat : Int), .slice (some ⟨b0, off, none⟩) xs.length c] 25)).alloc (.cells #[.int .u32 0, .int .u32 0, .int .u16 0, .int .u16 0, .int .u8 0] 29)).drew = V at hfV hBV hrV ⊢
    have m9 := (hBV.cell (p := ⟨b0, off + 9, none⟩) hB1).trans z9
    clear hV hB hf hp hrr n0 n6 n7 n9 x0 z6 z7 z9
    go_wp2_with fail
    have hlt := hfV.lt
    have he := Blk.new V #[.int .u32 0, .int .u32 0, .int .u16 (x : Int), .int .u16 (y : Int), .int .u8 (pr.toNat : Int)] 29
    replace hrV := hrV.nextA (.cells #[.int .u32 0, .int .u32 0, .int .u16 (x : Int), .int .u16 (y : Int), .int .u8 (pr.toNat : Int)] 29)
    replace hfV := hfV.alloc (.cells #[.int .u32 0, .int .u32 0, .int .u16 (x : Int), .int .u16 (y : Int), .int .u8 (pr.toNat : Int)] 29)
    replace hBV := bnextA hBV (.cells #[.int .u32 0, .int .u32 0, .int .u16 (x : Int), .int .u16 (y : Int), .int .u8 (pr.toNat : Int)] 29)
    have hgl : w.heap.size + 1 ≤ V.heap.size := by omega
    have hg0 : w.heap.size ≤ V.heap.size := by omega
    have hne : w.heap.size + 1 ≠ V.heap.size := by omega
    have hgd : ∃ g, V.heap.size = g := ⟨_, rfl⟩
    obtain ⟨G, hG⟩ := hgd
    rw [hG] at he hgl hg0 hne ⊢
    generalize V.alloc (.cells #[.int .u32 0, .int .u32 0, .int .u16 (x : Int), .int .u16 (y : Int), .int .u8 (pr.toNat : Int)] 29) = V2 at he hrV hfV hBV ⊢
    clear m9 hG hlt
    refine (HG3 _ hrV).out.mono ?_
    rintro e w2 ⟨rfl, rfl⟩
    obtain ⟨g0, g1, g2, g3, g4, k0, k1, k2, k3, k4⟩ := fl_cells he
    go_wp2_with fail
    replace he := he.set 0 (.int .u32 (s.toNat : Int))
    replace hfV := hfV.other hne 0 (.int .u32 (s.toNat : Int))
    have hB3 := hBV.setCell (p := ⟨G, 0, none⟩) hg0 (.int .u32 (s.toNat : Int))
    have hr3 := hr.next hB3
    clear hrV hBV g0 g1 g2 g3 g4 k0 k1 k2 k3 k4 HG3
    generalize V2.setCell ⟨G, 0, none⟩ (.int .u32 (s.toNat : Int)) = V3 at he hfV hB3 hr3 ⊢
    refine (HG4 _ hr3).out.mono ?_
    rintro e w2 ⟨rfl, rfl⟩
    obtain ⟨g0, g1, g2, g3, g4, k0, k1, k2, k3, k4⟩ := fl_cells he
    obtain ⟨r0, r1, r2, r3, r4, s0, s1, s2, s3, s4⟩ := fl_cells hfV
    have hne1 : ¬ w.heap.size + 1 = G := hne
    have hne2 : ¬ G = w.heap.size + 1 := fun h => hne h.symm
    clear hr3 he hfV HG4 hr
    go_wp2_with fail
    simp [bodyPost, results, Try.results12, go_sem, *]
    exact bset5 (hB3.setCell (p := ⟨G, 1, none⟩) hg0 (.int .u32 (d.toNat : Int))) (Nat.le_succ _) _ _ _ _ _

end Go.Proofs.Ytkoamiefombilaa
