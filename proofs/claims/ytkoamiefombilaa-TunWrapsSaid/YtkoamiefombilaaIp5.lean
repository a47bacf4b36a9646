/- Contracts of the reference's Parse of packets. -/
import Derived.Test.YtkoamiefombilaaIp4
import Derived.Test.YtkoamiefombilaaReg2
namespace Go.Proofs.Ytkoamiefombilaa
open Go.RowKit

theorem two_of (xs : List UInt8) (k n : Nat) (h : k + 2 ≤ xs.length) (hn : beN ((xs.drop k).take 2) = n) : (xs[k].toNat : Int) * 256 + (xs[k + 1].toNat : Int) = (n : Int) := by
  rw [take_two xs k h, beN_two] at hn
  omega

set_option maxHeartbeats 4000000 in
theorem rpparse_short (A : Option Addr) (c : Nat) (xs : List UInt8) (w : World) (hr : Rd bv w w.heap.size A c xs) (h20 : xs.length < 20) :
    Calls Try.prog 85 #[.slice A xs.length c] w fun e w' => e = .returned (.tuple #[.agg #[.int .u8 0, .int .u16 0, .bool false, .bool false, .int .u16 0, .int .u8 0, .int .u8 0, .int .u32 0, .int .u32 0, .slice none 0 0, .slice none 0 0], .int .i64 4]) ∧ Below w.heap.size w w' := by
  have hlc := hr.len
  have hcc := hr.cap
  go_enter Try.func85, Try.ntmps85
  go_wp2_with fail
  simp [bodyPost, results, Try.results85, go_sem, *]
  exact bnextA (Below.refl _ _) _

set_option maxHeartbeats 4000000 in
theorem rpparse_form0 (A : Option Addr) (c : Nat) (xs : List UInt8) (w : World) (hr : Rd bv w w.heap.size A c xs) (h20 : 20 ≤ xs.length) (hm : (xs[0]).toNat < 69) :
    Calls Try.prog 85 #[.slice A xs.length c] w fun e w' => e = .returned (.tuple #[.agg #[.int .u8 0, .int .u16 0, .bool false, .bool false, .int .u16 0, .int .u8 0, .int .u8 0, .int .u32 0, .int .u32 0, .slice none 0 0, .slice none 0 0], .int .i64 3]) ∧ Below w.heap.size w w' := by
  have hlc := hr.len
  have hcc := hr.cap
  obtain ⟨b0, off, rfl, hB0, hcell⟩ := byt_at hr (k := 0) (by omega)
  have hV0a := bnextA (Below.refl w.heap.size w) (.cells #[.int .u8 0, .int .u16 0, .bool false, .bool false, .int .u16 0, .int .u8 0, .int .u8 0, .int .u32 0, .int .u32 0, .slice none 0 0, .slice none 0 0] 38)
  have k0 := (hV0a.cell hB0).trans (hcell 0 (by omega))
  simp only [Nat.add_zero] at k0
  have hx0 := (xs[0]).toNat_lt
  have i0 : (0 : Int) < (xs.length : Int) := by omega
  generalize xs[0] = x0 at *
  have d1 : ((x0.toNat : Int) - 64) * 4 < 20 := by omega
  clear hcell hr hm hV0a
  go_enter Try.func85, Try.ntmps85
  go_wp2_with fail
  simp [bodyPost, results, Try.results85, go_sem, *]
  exact bnextA (Below.refl _ _) _

set_option maxHeartbeats 4000000 in
theorem rpparse_form1 (A : Option Addr) (c : Nat) (xs : List UInt8) (w : World) (hr : Rd bv w w.heap.size A c xs) (h20 : 20 ≤ xs.length) (hm : 79 < (xs[0]).toNat) :
    Calls Try.prog 85 #[.slice A xs.length c] w fun e w' => e = .returned (.tuple #[.agg #[.int .u8 0, .int .u16 0, .bool false, .bool false, .int .u16 0, .int .u8 0, .int .u8 0, .int .u32 0, .int .u32 0, .slice none 0 0, .slice none 0 0], .int .i64 3]) ∧ Below w.heap.size w w' := by
  have hlc := hr.len
  have hcc := hr.cap
  obtain ⟨b0, off, rfl, hB0, hcell⟩ := byt_at hr (k := 0) (by omega)
  have hV0a := bnextA (Below.refl w.heap.size w) (.cells #[.int .u8 0, .int .u16 0, .bool false, .bool false, .int .u16 0, .int .u8 0, .int .u8 0, .int .u32 0, .int .u32 0, .slice none 0 0, .slice none 0 0] 38)
  have k0 := (hV0a.cell hB0).trans (hcell 0 (by omega))
  simp only [Nat.add_zero] at k0
  have hx0 := (xs[0]).toNat_lt
  have i0 : (0 : Int) < (xs.length : Int) := by omega
  generalize xs[0] = x0 at *
  have d1 : decide (((x0.toNat : Int) - 64) * 4 < 20) = false := by simp; omega
  have d2 : (60 : Int) < ((x0.toNat : Int) - 64) * 4 := by omega
  clear hcell hr hm hV0a
  go_enter Try.func85, Try.ntmps85
  go_wp2_with fail
  simp [bodyPost, results, Try.results85, go_sem, *]
  exact bnextA (Below.refl _ _) _

set_option maxHeartbeats 4000000 in
theorem rpparse_long (A : Option Addr) (c : Nat) (xs : List UInt8) (w : World) (hr : Rd bv w w.heap.size A c xs) (h20 : 20 ≤ xs.length) (m : Nat) (hm : (xs[0]).toNat = 64 + m) (hm5 : 5 ≤ m) (hm15 : m ≤ 15) (hl : xs.length < 4 * m) :
    Calls Try.prog 85 #[.slice A xs.length c] w fun e w' => e = .returned (.tuple #[.agg #[.int .u8 0, .int .u16 0, .bool false, .bool false, .int .u16 0, .int .u8 0, .int .u8 0, .int .u32 0, .int .u32 0, .slice none 0 0, .slice none 0 0], .int .i64 4]) ∧ Below w.heap.size w w' := by
  have hlc := hr.len
  have hcc := hr.cap
  obtain ⟨b0, off, rfl, hB0, hcell⟩ := byt_at hr (k := 0) (by omega)
  have hV0a := bnextA (Below.refl w.heap.size w) (.cells #[.int .u8 0, .int .u16 0, .bool false, .bool false, .int .u16 0, .int .u8 0, .int .u8 0, .int .u32 0, .int .u32 0, .slice none 0 0, .slice none 0 0] 38)
  have k0 := (hV0a.cell hB0).trans (hcell 0 (by omega))
  simp only [Nat.add_zero] at k0
  have hx0 := (xs[0]).toNat_lt
  have i0 : (0 : Int) < (xs.length : Int) := by omega
  generalize xs[0] = x0 at *
  have d4 : (x0.toNat : Int) - 64 = (m : Int) := by omega
  clear hcell hr hm hx0 hV0a
  go_enter Try.func85, Try.ntmps85
  go_wp2_with fail
  simp [bodyPost, results, Try.results85, go_sem, *]
  exact bnextA (Below.refl _ _) _

set_option maxHeartbeats 4000000 in
theorem rpparse_sum (A : Option Addr) (c : Nat) (xs : List UInt8) (w : World) (hr : Rd bv w w.heap.size A c xs) (h20 : 20 ≤ xs.length) (m : Nat) (hm : (xs[0]).toNat = 64 + m) (hm5 : 5 ≤ m) (hm15 : m ≤ 15) (hl : 4 * m ≤ xs.length) (hN : onesN (xs.take (4 * m)) ≠ 65535) :
    Calls Try.prog 85 #[.slice A xs.length c] w fun e w' => e = .returned (.tuple #[.agg #[.int .u8 0, .int .u16 0, .bool false, .bool false, .int .u16 0, .int .u8 0, .int .u8 0, .int .u32 0, .int .u32 0, .slice none 0 0, .slice none 0 0], .int .i64 5]) ∧ Below w.heap.size w w' := by
  have hlc := hr.len
  have hcc := hr.cap
  obtain ⟨b0, off, rfl, hB0, hcell⟩ := byt_at hr (k := 0) (by omega)
  have hV0a := bnextA (Below.refl w.heap.size w) (.cells #[.int .u8 0, .int .u16 0, .bool false, .bool false, .int .u16 0, .int .u8 0, .int .u8 0, .int .u32 0, .int .u32 0, .slice none 0 0, .slice none 0 0] 38)
  have k0 := (hV0a.cell hB0).trans (hcell 0 (by omega))
  simp only [Nat.add_zero] at k0
  have hx0 := (xs[0]).toNat_lt
  have i0 : (0 : Int) < (xs.length : Int) := by omega
  obtain ⟨N, hNe⟩ : ∃ N, onesN (xs.take (4 * m)) = N := ⟨_, rfl⟩
  rw [hNe] at hN
  have hNN : ((N : Int) == 65535) = false := by simp; omega
  have hN65 : ¬ (N : Int) = 65535 := by omega
  obtain ⟨ts, hts⟩ : ∃ ts, xs.take (4 * m) = ts := ⟨_, rfl⟩
  have htl : ts.length = 4 * m := by rw [← hts]; simp; omega
  have hrt : Rd bv w w.heap.size (some ⟨b0, off, none⟩) c ts := by rw [← hts]; exact hr.take _
  rw [hts] at hNe
  have hcl : (m : Int) * 4 ≤ (c : Int) := by omega
  have hON : ∀ W, Rd bv W W.heap.size (some ⟨b0, off, none⟩) c ts → Hid (Calls Try.prog 47 #[.slice (some ⟨b0, off, none⟩) (m * 4) c] W fun e w' => e = .returned (.int .i64 (N : Nat)) ∧ W = w') := by
    intro W h
    have := rones_any _ _ ts _ W _ h (by omega) hNe
    rw [htl, Nat.mul_comm] at this
    exact this
  generalize xs[0] = x0 at *
  have d4 : (x0.toNat : Int) - 64 = (m : Int) := by omega
  clear hcell hr hm hx0 hV0a hNe hN htl hts
  go_enter Try.func85, Try.ntmps85
  go_wp2_with fail
  refine (hON _ (hrt.nextA _)).out.mono ?_
  rintro e w1 ⟨rfl, rfl⟩
  go_wp2_with fail
  simp [bodyPost, results, Try.results85, go_sem, *]
  exact bnextA (Below.refl _ _) _

set_option maxHeartbeats 4000000 in
theorem rpparse_hi (A : Option Addr) (c : Nat) (xs : List UInt8) (w : World) (hr : Rd bv w w.heap.size A c xs) (h20 : 20 ≤ xs.length) (m : Nat) (hm : (xs[0]).toNat = 64 + m) (hm5 : 5 ≤ m) (hm15 : m ≤ 15) (hl : 4 * m ≤ xs.length) (hN : onesN (xs.take (4 * m)) = 65535) (fl al : Nat) (hfl : beN ((xs.drop 6).take 2) = fl) (hal : beN ((xs.drop 2).take 2) = al) (hhi : 32768 ≤ fl) :
    Calls Try.prog 85 #[.slice A xs.length c] w fun e w' => e = .returned (.tuple #[.agg #[.int .u8 0, .int .u16 0, .bool false, .bool false, .int .u16 0, .int .u8 0, .int .u8 0, .int .u32 0, .int .u32 0, .slice none 0 0, .slice none 0 0], .int .i64 3]) ∧ Below w.heap.size w w' := by
  have hlc := hr.len
  have hcc := hr.cap
  obtain ⟨b0, off, rfl, hB0, hcell⟩ := byt_at hr (k := 0) (by omega)
  have hV0a := bnextA (Below.refl w.heap.size w) (.cells #[.int .u8 0, .int .u16 0, .bool false, .bool false, .int .u16 0, .int .u8 0, .int .u8 0, .int .u32 0, .int .u32 0, .slice none 0 0, .slice none 0 0] 38)
  have k0 := (hV0a.cell hB0).trans (hcell 0 (by omega))
  simp only [Nat.add_zero] at k0
  have hx0 := (xs[0]).toNat_lt
  have i0 : (0 : Int) < (xs.length : Int) := by omega
  have i1 : (1 : Int) < (xs.length : Int) := by omega
  have hx1 := (xs[1]).toNat_lt
  have i2 : (2 : Int) < (xs.length : Int) := by omega
  have hx2 := (xs[2]).toNat_lt
  have i3 : (3 : Int) < (xs.length : Int) := by omega
  have hx3 := (xs[3]).toNat_lt
  have i4 : (4 : Int) < (xs.length : Int) := by omega
  have hx4 := (xs[4]).toNat_lt
  have i5 : (5 : Int) < (xs.length : Int) := by omega
  have hx5 := (xs[5]).toNat_lt
  have i6 : (6 : Int) < (xs.length : Int) := by omega
  have hx6 := (xs[6]).toNat_lt
  have i7 : (7 : Int) < (xs.length : Int) := by omega
  have hx7 := (xs[7]).toNat_lt
  have i8 : (8 : Int) < (xs.length : Int) := by omega
  have hx8 := (xs[8]).toNat_lt
  have i9 : (9 : Int) < (xs.length : Int) := by omega
  have hx9 := (xs[9]).toNat_lt
  have HC : ∀ U, Below w.heap.size w U → U.cell? ⟨b0, off + 1, none⟩ = some (.int .u8 ((xs[1]).toNat : Int)) ∧ U.cell? ⟨b0, off + 2, none⟩ = some (.int .u8 ((xs[2]).toNat : Int)) ∧ U.cell? ⟨b0, off + 3, none⟩ = some (.int .u8 ((xs[3]).toNat : Int)) ∧ U.cell? ⟨b0, off + 4, none⟩ = some (.int .u8 ((xs[4]).toNat : Int)) ∧ U.cell? ⟨b0, off + 5, none⟩ = some (.int .u8 ((xs[5]).toNat : Int)) ∧ U.cell? ⟨b0, off + 6, none⟩ = some (.int .u8 ((xs[6]).toNat : Int)) ∧ U.cell? ⟨b0, off + 7, none⟩ = some (.int .u8 ((xs[7]).toNat : Int)) ∧ U.cell? ⟨b0, off + 8, none⟩ = some (.int .u8 ((xs[8]).toNat : Int)) ∧ U.cell? ⟨b0, off + 9, none⟩ = some (.int .u8 ((xs[9]).toNat : Int)) := fun U h => ⟨(h.cell hB0).trans (hcell 1 (by omega)), (h.cell hB0).trans (hcell 2 (by omega)), (h.cell hB0).trans (hcell 3 (by omega)), (h.cell hB0).trans (hcell 4 (by omega)), (h.cell hB0).trans (hcell 5 (by omega)), (h.cell hB0).trans (hcell 6 (by omega)), (h.cell hB0).trans (hcell 7 (by omega)), (h.cell hB0).trans (hcell 8 (by omega)), (h.cell hB0).trans (hcell 9 (by omega))⟩
  have tal := two_of xs 2 al (by omega) hal
  have tfl := two_of xs 6 fl (by omega) hfl
  obtain ⟨ts, hts⟩ : ∃ ts, xs.take (4 * m) = ts := ⟨_, rfl⟩
  have htl : ts.length = 4 * m := by rw [← hts]; simp; omega
  have hrt : Rd bv w w.heap.size (some ⟨b0, off, none⟩) c ts := by rw [← hts]; exact hr.take _
  rw [hts] at hN
  have hcl : (m : Int) * 4 ≤ (c : Int) := by omega
  have hON : ∀ W, Rd bv W W.heap.size (some ⟨b0, off, none⟩) c ts → Hid (Calls Try.prog 47 #[.slice (some ⟨b0, off, none⟩) (m * 4) c] W fun e w' => e = .returned (.int .i64 (65535 : Nat)) ∧ W = w') := by
    intro W h
    have := rones_any _ _ ts _ W _ h (by omega) hN
    rw [htl, Nat.mul_comm] at this
    exact this
  generalize xs[1] = x1 at *
  generalize xs[2] = x2 at *
  generalize xs[3] = x3 at *
  generalize xs[4] = x4 at *
  generalize xs[5] = x5 at *
  generalize xs[6] = x6 at *
  generalize xs[7] = x7 at *
  generalize xs[8] = x8 at *
  generalize xs[9] = x9 at *
  generalize xs[0] = x0 at *
  have d4 : (x0.toNat : Int) - 64 = (m : Int) := by omega
  have HAL := fun (_ : Unit) => Lib.hid tal
  have HFL := fun (_ : Unit) => Lib.hid tfl
  have hal16 : al ≤ 65535 := by omega
  have hfl16 : fl ≤ 65535 := by omega
  have d5 : (32768 : Int) ≤ (fl : Int) := by omega
  have hV0 : Below w.heap.size w (w.alloc (.cells #[.int .u8 0, .int .u16 0, .bool false, .bool false, .int .u16 0, .int .u8 0, .int .u8 0, .int .u32 0, .int .u32 0, .slice none 0 0, .slice none 0 0] 38)) := bnextA (Below.refl _ _) _
  have hR := Blk.new w #[.int .u8 0, .int .u16 0, .bool false, .bool false, .int .u16 0, .int .u8 0, .int .u8 0, .int .u32 0, .int .u32 0, .slice none 0 0, .slice none 0 0] 38
  clear hcell hm hx0 hV0a hN htl hts hfl hal tal tfl
  go_enter Try.func85, Try.ntmps85
  go_wp2_with fail
  refine (hON _ (hrt.nextA _)).out.mono ?_
  rintro e w1 ⟨rfl, rfl⟩
  replace hr := hr.next hV0
  generalize w.alloc (.cells #[.int .u8 0, .int .u16 0, .bool false, .bool false, .int .u16 0, .int .u8 0, .int .u8 0, .int .u32 0, .int .u32 0, .slice none 0 0, .slice none 0 0] 38) = V0 at hV0 hR hr k0 ⊢
  obtain ⟨m1, m2, m3, m4, m5, m6, m7, m8, m9⟩ := HC _ hV0
  clear hON hrt
  go_wp2_with fail
  go_quiet (fail)
  rw [(HAL ()).out]
  have hV1 := below_drewN hV0 nq
  replace hR := hR.drewN nq
  replace hr := hr.next (below_drewN (Below.refl V0.heap.size V0) nq)
  clear m1 m2 m3 m4 m5 m6 m7 m8 m9 k0
  generalize V0.drewN nq = V1 at hV1 hR hr ⊢
  obtain ⟨m1, m2, m3, m4, m5, m6, m7, m8, m9⟩ := HC _ hV1
  go_wp2_with fail
  go_quiet (fail)
  rw [(HFL ()).out]
  have hV2 := below_drewN hV1 nq
  replace hR := hR.drewN nq
  replace hr := hr.next (below_drewN (Below.refl V1.heap.size V1) nq)
  clear hV0 hV1 m1 m2 m3 m4 m5 m6 m7 m8 m9
  generalize V1.drewN nq = V at hV2 hR hr ⊢
  obtain ⟨p0, p1, p2, p3, p4, p5, p6, p7, p8, p9, p10, g0, g1, g2, g3, g4, g5, g6, g7, g8, g9, g10⟩ := hR.get11
  go_wp2_with fail
  simp [bodyPost, results, Try.results85, go_sem, *]
  exact bset11 hV2 (Nat.le_refl _) _ _ _ _ _ _ _ _ _ _ _

set_option maxHeartbeats 4000000 in
theorem rpparse_less (A : Option Addr) (c : Nat) (xs : List UInt8) (w : World) (hr : Rd bv w w.heap.size A c xs) (h20 : 20 ≤ xs.length) (m : Nat) (hm : (xs[0]).toNat = 64 + m) (hm5 : 5 ≤ m) (hm15 : m ≤ 15) (hl : 4 * m ≤ xs.length) (hN : onesN (xs.take (4 * m)) = 65535) (fl al : Nat) (hfl : beN ((xs.drop 6).take 2) = fl) (hal : beN ((xs.drop 2).take 2) = al) (hhi : fl < 32768) (hla : al < 4 * m) :
    Calls Try.prog 85 #[.slice A xs.length c] w fun e w' => e = .returned (.tuple #[.agg #[.int .u8 0, .int .u16 0, .bool false, .bool false, .int .u16 0, .int .u8 0, .int .u8 0, .int .u32 0, .int .u32 0, .slice none 0 0, .slice none 0 0], .int .i64 3]) ∧ Below w.heap.size w w' := by
  have hlc := hr.len
  have hcc := hr.cap
  obtain ⟨b0, off, rfl, hB0, hcell⟩ := byt_at hr (k := 0) (by omega)
  have hV0a := bnextA (Below.refl w.heap.size w) (.cells #[.int .u8 0, .int .u16 0, .bool false, .bool false, .int .u16 0, .int .u8 0, .int .u8 0, .int .u32 0, .int .u32 0, .slice none 0 0, .slice none 0 0] 38)
  have k0 := (hV0a.cell hB0).trans (hcell 0 (by omega))
  simp only [Nat.add_zero] at k0
  have hx0 := (xs[0]).toNat_lt
  have i0 : (0 : Int) < (xs.length : Int) := by omega
  have i1 : (1 : Int) < (xs.length : Int) := by omega
  have hx1 := (xs[1]).toNat_lt
  have i2 : (2 : Int) < (xs.length : Int) := by omega
  have hx2 := (xs[2]).toNat_lt
  have i3 : (3 : Int) < (xs.length : Int) := by omega
  have hx3 := (xs[3]).toNat_lt
  have i4 : (4 : Int) < (xs.length : Int) := by omega
  have hx4 := (xs[4]).toNat_lt
  have i5 : (5 : Int) < (xs.length : Int) := by omega
  have hx5 := (xs[5]).toNat_lt
  have i6 : (6 : Int) < (xs.length : Int) := by omega
  have hx6 := (xs[6]).toNat_lt
  have i7 : (7 : Int) < (xs.length : Int) := by omega
  have hx7 := (xs[7]).toNat_lt
  have i8 : (8 : Int) < (xs.length : Int) := by omega
  have hx8 := (xs[8]).toNat_lt
  have i9 : (9 : Int) < (xs.length : Int) := by omega
  have hx9 := (xs[9]).toNat_lt
  have HC : ∀ U, Below w.heap.size w U → U.cell? ⟨b0, off + 1, none⟩ = some (.int .u8 ((xs[1]).toNat : Int)) ∧ U.cell? ⟨b0, off + 2, none⟩ = some (.int .u8 ((xs[2]).toNat : Int)) ∧ U.cell? ⟨b0, off + 3, none⟩ = some (.int .u8 ((xs[3]).toNat : Int)) ∧ U.cell? ⟨b0, off + 4, none⟩ = some (.int .u8 ((xs[4]).toNat : Int)) ∧ U.cell? ⟨b0, off + 5, none⟩ = some (.int .u8 ((xs[5]).toNat : Int)) ∧ U.cell? ⟨b0, off + 6, none⟩ = some (.int .u8 ((xs[6]).toNat : Int)) ∧ U.cell? ⟨b0, off + 7, none⟩ = some (.int .u8 ((xs[7]).toNat : Int)) ∧ U.cell? ⟨b0, off + 8, none⟩ = some (.int .u8 ((xs[8]).toNat : Int)) ∧ U.cell? ⟨b0, off + 9, none⟩ = some (.int .u8 ((xs[9]).toNat : Int)) := fun U h => ⟨(h.cell hB0).trans (hcell 1 (by omega)), (h.cell hB0).trans (hcell 2 (by omega)), (h.cell hB0).trans (hcell 3 (by omega)), (h.cell hB0).trans (hcell 4 (by omega)), (h.cell hB0).trans (hcell 5 (by omega)), (h.cell hB0).trans (hcell 6 (by omega)), (h.cell hB0).trans (hcell 7 (by omega)), (h.cell hB0).trans (hcell 8 (by omega)), (h.cell hB0).trans (hcell 9 (by omega))⟩
  have tal := two_of xs 2 al (by omega) hal
  have tfl := two_of xs 6 fl (by omega) hfl
  obtain ⟨ts, hts⟩ : ∃ ts, xs.take (4 * m) = ts := ⟨_, rfl⟩
  have htl : ts.length = 4 * m := by rw [← hts]; simp; omega
  have hrt : Rd bv w w.heap.size (some ⟨b0, off, none⟩) c ts := by rw [← hts]; exact hr.take _
  rw [hts] at hN
  have hcl : (m : Int) * 4 ≤ (c : Int) := by omega
  have hON : ∀ W, Rd bv W W.heap.size (some ⟨b0, off, none⟩) c ts → Hid (Calls Try.prog 47 #[.slice (some ⟨b0, off, none⟩) (m * 4) c] W fun e w' => e = .returned (.int .i64 (65535 : Nat)) ∧ W = w') := by
    intro W h
    have := rones_any _ _ ts _ W _ h (by omega) hN
    rw [htl, Nat.mul_comm] at this
    exact this
  generalize xs[1] = x1 at *
  generalize xs[2] = x2 at *
  generalize xs[3] = x3 at *
  generalize xs[4] = x4 at *
  generalize xs[5] = x5 at *
  generalize xs[6] = x6 at *
  generalize xs[7] = x7 at *
  generalize xs[8] = x8 at *
  generalize xs[9] = x9 at *
  generalize xs[0] = x0 at *
  have d4 : (x0.toNat : Int) - 64 = (m : Int) := by omega
  have HAL := fun (_ : Unit) => Lib.hid tal
  have HFL := fun (_ : Unit) => Lib.hid tfl
  have hal16 : al ≤ 65535 := by omega
  have hfl16 : fl ≤ 65535 := by omega
  have d5 : decide ((32768 : Int) ≤ (fl : Int)) = false := by simp; omega
  have d6 : (al : Int) < (m : Int) * 4 := by omega
  have hV0 : Below w.heap.size w (w.alloc (.cells #[.int .u8 0, .int .u16 0, .bool false, .bool false, .int .u16 0, .int .u8 0, .int .u8 0, .int .u32 0, .int .u32 0, .slice none 0 0, .slice none 0 0] 38)) := bnextA (Below.refl _ _) _
  have hR := Blk.new w #[.int .u8 0, .int .u16 0, .bool false, .bool false, .int .u16 0, .int .u8 0, .int .u8 0, .int .u32 0, .int .u32 0, .slice none 0 0, .slice none 0 0] 38
  clear hcell hm hx0 hV0a hN htl hts hfl hal tal tfl
  go_enter Try.func85, Try.ntmps85
  go_wp2_with fail
  refine (hON _ (hrt.nextA _)).out.mono ?_
  rintro e w1 ⟨rfl, rfl⟩
  replace hr := hr.next hV0
  generalize w.alloc (.cells #[.int .u8 0, .int .u16 0, .bool false, .bool false, .int .u16 0, .int .u8 0, .int .u8 0, .int .u32 0, .int .u32 0, .slice none 0 0, .slice none 0 0] 38) = V0 at hV0 hR hr k0 ⊢
  obtain ⟨m1, m2, m3, m4, m5, m6, m7, m8, m9⟩ := HC _ hV0
  clear hON hrt
  go_wp2_with fail
  go_quiet (fail)
  rw [(HAL ()).out]
  have hV1 := below_drewN hV0 nq
  replace hR := hR.drewN nq
  replace hr := hr.next (below_drewN (Below.refl V0.heap.size V0) nq)
  clear m1 m2 m3 m4 m5 m6 m7 m8 m9 k0
  generalize V0.drewN nq = V1 at hV1 hR hr ⊢
  obtain ⟨m1, m2, m3, m4, m5, m6, m7, m8, m9⟩ := HC _ hV1
  go_wp2_with fail
  go_quiet (fail)
  rw [(HFL ()).out]
  have hV2 := below_drewN hV1 nq
  replace hR := hR.drewN nq
  replace hr := hr.next (below_drewN (Below.refl V1.heap.size V1) nq)
  clear hV0 hV1 m1 m2 m3 m4 m5 m6 m7 m8 m9
  generalize V1.drewN nq = V at hV2 hR hr ⊢
  obtain ⟨p0, p1, p2, p3, p4, p5, p6, p7, p8, p9, p10, g0, g1, g2, g3, g4, g5, g6, g7, g8, g9, g10⟩ := hR.get11
  go_wp2_with fail
  simp [bodyPost, results, Try.results85, go_sem, *]
  exact bset11 hV2 (Nat.le_refl _) _ _ _ _ _ _ _ _ _ _ _

set_option maxHeartbeats 4000000 in
theorem rpparse_over (A : Option Addr) (c : Nat) (xs : List UInt8) (w : World) (hr : Rd bv w w.heap.size A c xs) (h20 : 20 ≤ xs.length) (m : Nat) (hm : (xs[0]).toNat = 64 + m) (hm5 : 5 ≤ m) (hm15 : m ≤ 15) (hl : 4 * m ≤ xs.length) (hN : onesN (xs.take (4 * m)) = 65535) (fl al : Nat) (hfl : beN ((xs.drop 6).take 2) = fl) (hal : beN ((xs.drop 2).take 2) = al) (hhi : fl < 32768) (hla : 4 * m ≤ al) (hov : xs.length < al) :
    Calls Try.prog 85 #[.slice A xs.length c] w fun e w' => e = .returned (.tuple #[.agg #[.int .u8 0, .int .u16 0, .bool false, .bool false, .int .u16 0, .int .u8 0, .int .u8 0, .int .u32 0, .int .u32 0, .slice none 0 0, .slice none 0 0], .int .i64 4]) ∧ Below w.heap.size w w' := by
  have hlc := hr.len
  have hcc := hr.cap
  obtain ⟨b0, off, rfl, hB0, hcell⟩ := byt_at hr (k := 0) (by omega)
  have hV0a := bnextA (Below.refl w.heap.size w) (.cells #[.int .u8 0, .int .u16 0, .bool false, .bool false, .int .u16 0, .int .u8 0, .int .u8 0, .int .u32 0, .int .u32 0, .slice none 0 0, .slice none 0 0] 38)
  have k0 := (hV0a.cell hB0).trans (hcell 0 (by omega))
  simp only [Nat.add_zero] at k0
  have hx0 := (xs[0]).toNat_lt
  have i0 : (0 : Int) < (xs.length : Int) := by omega
  have i1 : (1 : Int) < (xs.length : Int) := by omega
  have hx1 := (xs[1]).toNat_lt
  have i2 : (2 : Int) < (xs.length : Int) := by omega
  have hx2 := (xs[2]).toNat_lt
  have i3 : (3 : Int) < (xs.length : Int) := by omega
  have hx3 := (xs[3]).toNat_lt
  have i4 : (4 : Int) < (xs.length : Int) := by omega
  have hx4 := (xs[4]).toNat_lt
  have i5 : (5 : Int) < (xs.length : Int) := by omega
  have hx5 := (xs[5]).toNat_lt
  have i6 : (6 : Int) < (xs.length : Int) := by omega
  have hx6 := (xs[6]).toNat_lt
  have i7 : (7 : Int) < (xs.length : Int) := by omega
  have hx7 := (xs[7]).toNat_lt
  have i8 : (8 : Int) < (xs.length : Int) := by omega
  have hx8 := (xs[8]).toNat_lt
  have i9 : (9 : Int) < (xs.length : Int) := by omega
  have hx9 := (xs[9]).toNat_lt
  have HC : ∀ U, Below w.heap.size w U → U.cell? ⟨b0, off + 1, none⟩ = some (.int .u8 ((xs[1]).toNat : Int)) ∧ U.cell? ⟨b0, off + 2, none⟩ = some (.int .u8 ((xs[2]).toNat : Int)) ∧ U.cell? ⟨b0, off + 3, none⟩ = some (.int .u8 ((xs[3]).toNat : Int)) ∧ U.cell? ⟨b0, off + 4, none⟩ = some (.int .u8 ((xs[4]).toNat : Int)) ∧ U.cell? ⟨b0, off + 5, none⟩ = some (.int .u8 ((xs[5]).toNat : Int)) ∧ U.cell? ⟨b0, off + 6, none⟩ = some (.int .u8 ((xs[6]).toNat : Int)) ∧ U.cell? ⟨b0, off + 7, none⟩ = some (.int .u8 ((xs[7]).toNat : Int)) ∧ U.cell? ⟨b0, off + 8, none⟩ = some (.int .u8 ((xs[8]).toNat : Int)) ∧ U.cell? ⟨b0, off + 9, none⟩ = some (.int .u8 ((xs[9]).toNat : Int)) := fun U h => ⟨(h.cell hB0).trans (hcell 1 (by omega)), (h.cell hB0).trans (hcell 2 (by omega)), (h.cell hB0).trans (hcell 3 (by omega)), (h.cell hB0).trans (hcell 4 (by omega)), (h.cell hB0).trans (hcell 5 (by omega)), (h.cell hB0).trans (hcell 6 (by omega)), (h.cell hB0).trans (hcell 7 (by omega)), (h.cell hB0).trans (hcell 8 (by omega)), (h.cell hB0).trans (hcell 9 (by omega))⟩
  have tal := two_of xs 2 al (by omega) hal
  have tfl := two_of xs 6 fl (by omega) hfl
  obtain ⟨ts, hts⟩ : ∃ ts, xs.take (4 * m) = ts := ⟨_, rfl⟩
  have htl : ts.length = 4 * m := by rw [← hts]; simp; omega
  have hrt : Rd bv w w.heap.size (some ⟨b0, off, none⟩) c ts := by rw [← hts]; exact hr.take _
  rw [hts] at hN
  have hcl : (m : Int) * 4 ≤ (c : Int) := by omega
  have hON : ∀ W, Rd bv W W.heap.size (some ⟨b0, off, none⟩) c ts → Hid (Calls Try.prog 47 #[.slice (some ⟨b0, off, none⟩) (m * 4) c] W fun e w' => e = .returned (.int .i64 (65535 : Nat)) ∧ W = w') := by
    intro W h
    have := rones_any _ _ ts _ W _ h (by omega) hN
    rw [htl, Nat.mul_comm] at this
    exact this
  generalize xs[1] = x1 at *
  generalize xs[2] = x2 at *
  generalize xs[3] = x3 at *
  generalize xs[4] = x4 at *
  generalize xs[5] = x5 at *
  generalize xs[6] = x6 at *
  generalize xs[7] = x7 at *
  generalize xs[8] = x8 at *
  generalize xs[9] = x9 at *
  generalize xs[0] = x0 at *
  have d4 : (x0.toNat : Int) - 64 = (m : Int) := by omega
  have HAL := fun (_ : Unit) => Lib.hid tal
  have HFL := fun (_ : Unit) => Lib.hid tfl
  have hal16 : al ≤ 65535 := by omega
  have hfl16 : fl ≤ 65535 := by omega
  have d5 : decide ((32768 : Int) ≤ (fl : Int)) = false := by simp; omega
  have d6 : decide ((al : Int) < (m : Int) * 4) = false := by simp; omega
  have hV0 : Below w.heap.size w (w.alloc (.cells #[.int .u8 0, .int .u16 0, .bool false, .bool false, .int .u16 0, .int .u8 0, .int .u8 0, .int .u32 0, .int .u32 0, .slice none 0 0, .slice none 0 0] 38)) := bnextA (Below.refl _ _) _
  have hR := Blk.new w #[.int .u8 0, .int .u16 0, .bool false, .bool false, .int .u16 0, .int .u8 0, .int .u8 0, .int .u32 0, .int .u32 0, .slice none 0 0, .slice none 0 0] 38
  clear hcell hm hx0 hV0a hN htl hts hfl hal tal tfl
  go_enter Try.func85, Try.ntmps85
  go_wp2_with fail
  refine (hON _ (hrt.nextA _)).out.mono ?_
  rintro e w1 ⟨rfl, rfl⟩
  replace hr := hr.next hV0
  generalize w.alloc (.cells #[.int .u8 0, .int .u16 0, .bool false, .bool false, .int .u16 0, .int .u8 0, .int .u8 0, .int .u32 0, .int .u32 0, .slice none 0 0, .slice none 0 0] 38) = V0 at hV0 hR hr k0 ⊢
  obtain ⟨m1, m2, m3, m4, m5, m6, m7, m8, m9⟩ := HC _ hV0
  clear hON hrt
  go_wp2_with fail
  go_quiet (fail)
  rw [(HAL ()).out]
  have hV1 := below_drewN hV0 nq
  replace hR := hR.drewN nq
  replace hr := hr.next (below_drewN (Below.refl V0.heap.size V0) nq)
  clear m1 m2 m3 m4 m5 m6 m7 m8 m9 k0
  generalize V0.drewN nq = V1 at hV1 hR hr ⊢
  obtain ⟨m1, m2, m3, m4, m5, m6, m7, m8, m9⟩ := HC _ hV1
  go_wp2_with fail
  go_quiet (fail)
  rw [(HFL ()).out]
  have hV2 := below_drewN hV1 nq
  replace hR := hR.drewN nq
  replace hr := hr.next (below_drewN (Below.refl V1.heap.size V1) nq)
  clear hV0 hV1 m1 m2 m3 m4 m5 m6 m7 m8 m9
  generalize V1.drewN nq = V at hV2 hR hr ⊢
  obtain ⟨p0, p1, p2, p3, p4, p5, p6, p7, p8, p9, p10, g0, g1, g2, g3, g4, g5, g6, g7, g8, g9, g10⟩ := hR.get11
  go_wp2_with fail
  simp [bodyPost, results, Try.results85, go_sem, *]
  exact bset11 hV2 (Nat.le_refl _) _ _ _ _ _ _ _ _ _ _ _

set_option maxHeartbeats 8000000 in
set_option maxRecDepth 10000 in
theorem rpparse_ok (A : Option Addr) (c : Nat) (xs : List UInt8) (w : World) (hr : Rd bv w w.heap.size A c xs) (h20 : 20 ≤ xs.length) (m : Nat) (hm : (xs[0]).toNat = 64 + m) (hm5 : 5 ≤ m) (hm15 : m ≤ 15) (hl : 4 * m ≤ xs.length) (hN : onesN (xs.take (4 * m)) = 65535) (fl al : Nat) (hfl : beN ((xs.drop 6).take 2) = fl) (hal : beN ((xs.drop 2).take 2) = al) (hhi : fl < 32768) (hla : 4 * m ≤ al) (hov : al ≤ xs.length) (hxl : xs.length ≤ 1000000)
    (tos : UInt8) (id : UInt16) (D M : Bool) (fo : UInt16) (ttl pr : UInt8) (s d : UInt32) (ht : xs[1] = tos) (hi : beN ((xs.drop 4).take 2) = id.toNat) (hD : decide (16384 ≤ fl) = D) (hM : decide (fl / 8192 % 2 = 1) = M) (hf : fl % 8192 = fo.toNat) (hl8 : xs[8] = ttl) (hl9 : xs[9] = pr) (hs : beN ((xs.drop 12).take 4) = s.toNat) (hd : beN ((xs.drop 16).take 4) = d.toNat) :
    Calls Try.prog 85 #[.slice A xs.length c] w fun e w' => ∃ Lo Ao co Lx Ax cx, e = .returned (.tuple #[.agg #[.int .u8 (tos.toNat : Int), .int .u16 (id.toNat : Int), .bool D, .bool M, .int .u16 (fo.toNat : Int), .int .u8 (ttl.toNat : Int), .int .u8 (pr.toNat : Int), .int .u32 (s.toNat : Int), .int .u32 (d.toNat : Int), .slice Ao Lo.length co, .slice Ax Lx.length cx], .int .i64 0]) ∧ Hid (Lo = (xs.drop 20).take (4 * m - 20)) ∧ Hid (Lx = (xs.drop (4 * m)).take (al - 4 * m)) ∧ Rd bv w' w'.heap.size Ao co Lo ∧ Rd bv w' w'.heap.size Ax cx Lx ∧ Below w.heap.size w w' := by
  have hlc := hr.len
  have hcc := hr.cap
  obtain ⟨b0, off, rfl, hB0, hcell⟩ := byt_at hr (k := 0) (by omega)
  have hV0a := bnextA (Below.refl w.heap.size w) (.cells #[.int .u8 0, .int .u16 0, .bool false, .bool false, .int .u16 0, .int .u8 0, .int .u8 0, .int .u32 0, .int .u32 0, .slice none 0 0, .slice none 0 0] 38)
  have k0 := (hV0a.cell hB0).trans (hcell 0 (by omega))
  simp only [Nat.add_zero] at k0
  have hx0 := (xs[0]).toNat_lt
  have i0 : (0 : Int) < (xs.length : Int) := by omega
  have i1 : (1 : Int) < (xs.length : Int) := by omega
  have hx1 := (xs[1]).toNat_lt
  have i2 : (2 : Int) < (xs.length : Int) := by omega
  have hx2 := (xs[2]).toNat_lt
  have i3 : (3 : Int) < (xs.length : Int) := by omega
  have hx3 := (xs[3]).toNat_lt
  have i4 : (4 : Int) < (xs.length : Int) := by omega
  have hx4 := (xs[4]).toNat_lt
  have i5 : (5 : Int) < (xs.length : Int) := by omega
  have hx5 := (xs[5]).toNat_lt
  have i6 : (6 : Int) < (xs.length : Int) := by omega
  have hx6 := (xs[6]).toNat_lt
  have i7 : (7 : Int) < (xs.length : Int) := by omega
  have hx7 := (xs[7]).toNat_lt
  have i8 : (8 : Int) < (xs.length : Int) := by omega
  have hx8 := (xs[8]).toNat_lt
  have i9 : (9 : Int) < (xs.length : Int) := by omega
  have hx9 := (xs[9]).toNat_lt
  have HC : ∀ U, Below w.heap.size w U → U.cell? ⟨b0, off + 1, none⟩ = some (.int .u8 ((xs[1]).toNat : Int)) ∧ U.cell? ⟨b0, off + 2, none⟩ = some (.int .u8 ((xs[2]).toNat : Int)) ∧ U.cell? ⟨b0, off + 3, none⟩ = some (.int .u8 ((xs[3]).toNat : Int)) ∧ U.cell? ⟨b0, off + 4, none⟩ = some (.int .u8 ((xs[4]).toNat : Int)) ∧ U.cell? ⟨b0, off + 5, none⟩ = some (.int .u8 ((xs[5]).toNat : Int)) ∧ U.cell? ⟨b0, off + 6, none⟩ = some (.int .u8 ((xs[6]).toNat : Int)) ∧ U.cell? ⟨b0, off + 7, none⟩ = some (.int .u8 ((xs[7]).toNat : Int)) ∧ U.cell? ⟨b0, off + 8, none⟩ = some (.int .u8 ((xs[8]).toNat : Int)) ∧ U.cell? ⟨b0, off + 9, none⟩ = some (.int .u8 ((xs[9]).toNat : Int)) := fun U h => ⟨(h.cell hB0).trans (hcell 1 (by omega)), (h.cell hB0).trans (hcell 2 (by omega)), (h.cell hB0).trans (hcell 3 (by omega)), (h.cell hB0).trans (hcell 4 (by omega)), (h.cell hB0).trans (hcell 5 (by omega)), (h.cell hB0).trans (hcell 6 (by omega)), (h.cell hB0).trans (hcell 7 (by omega)), (h.cell hB0).trans (hcell 8 (by omega)), (h.cell hB0).trans (hcell 9 (by omega))⟩
  have tal := two_of xs 2 al (by omega) hal
  have tfl := two_of xs 6 fl (by omega) hfl
  have tid := two_of xs 4 _ (by omega) hi
  have HG12 : ∀ W (h : Rd bv W W.heap.size (some ⟨b0, off, none⟩) c xs), Hid (Calls Try.prog 48 #[.slice (some ⟨b0, off, none⟩) xs.length c, .int .i64 12, .int .i64 4] W fun e w' => e = .returned (.tuple #[.int .u32 (s.toNat : Int), .bool true]) ∧ W = w') := by
    intro W h
    have := rget4_yes (some ⟨b0, off, none⟩) c xs 12 W _ h (by omega)
    rw [hs] at this
    exact this
  have HG16 : ∀ W (h : Rd bv W W.heap.size (some ⟨b0, off, none⟩) c xs), Hid (Calls Try.prog 48 #[.slice (some ⟨b0, off, none⟩) xs.length c, .int .i64 16, .int .i64 4] W fun e w' => e = .returned (.tuple #[.int .u32 (d.toNat : Int), .bool true]) ∧ W = w') := by
    intro W h
    have := rget4_yes (some ⟨b0, off, none⟩) c xs 16 W _ h (by omega)
    rw [hd] at this
    exact this
  have hcut1 := fun W (h : Rd bv W W.heap.size (some ⟨b0, off, none⟩) c xs) => rcut_yes (some ⟨b0, off, none⟩) c xs 20 (4 * m - 20) W h (by omega) (by omega)
  have hcut2 := fun W (h : Rd bv W W.heap.size (some ⟨b0, off, none⟩) c xs) => rcut_yes (some ⟨b0, off, none⟩) c xs (4 * m) (al - 4 * m) W h (by omega) (by omega)
  rw [show ((4 * m - 20 : Nat) : Int) = (m : Int) * 4 - 20 by omega] at hcut1
  rw [show ((al - 4 * m : Nat) : Int) = (al : Int) - (m : Int) * 4 by omega, show ((4 * m : Nat) : Int) = (m : Int) * 4 by omega] at hcut2
  have HCUT1 := fun W h => Lib.hid (hcut1 W h)
  have HCUT2 := fun W h => Lib.hid (hcut2 W h)
  clear hcut1 hcut2 hs hd hi
  obtain ⟨ts, hts⟩ : ∃ ts, xs.take (4 * m) = ts := ⟨_, rfl⟩
  have htl : ts.length = 4 * m := by rw [← hts]; simp; omega
  have hrt : Rd bv w w.heap.size (some ⟨b0, off, none⟩) c ts := by rw [← hts]; exact hr.take _
  rw [hts] at hN
  have hcl : (m : Int) * 4 ≤ (c : Int) := by omega
  have hON : ∀ W, Rd bv W W.heap.size (some ⟨b0, off, none⟩) c ts → Hid (Calls Try.prog 47 #[.slice (some ⟨b0, off, none⟩) (m * 4) c] W fun e w' => e = .returned (.int .i64 (65535 : Nat)) ∧ W = w') := by
    intro W h
    have := rones_any _ _ ts _ W _ h (by omega) hN
    rw [htl, Nat.mul_comm] at this
    exact this
  generalize xs[1] = x1 at *
  generalize xs[2] = x2 at *
  generalize xs[3] = x3 at *
  generalize xs[4] = x4 at *
  generalize xs[5] = x5 at *
  generalize xs[6] = x6 at *
  generalize xs[7] = x7 at *
  generalize xs[8] = x8 at *
  generalize xs[9] = x9 at *
  generalize xs[0] = x0 at *
  have d4 : (x0.toNat : Int) - 64 = (m : Int) := by omega
  have HAL := fun (_ : Unit) => Lib.hid tal
  have HFL := fun (_ : Unit) => Lib.hid tfl
  have hal16 : al ≤ 65535 := by omega
  have hfl16 : fl ≤ 65535 := by omega
  subst ht hl8 hl9
  have d5 : decide ((32768 : Int) ≤ (fl : Int)) = false := by simp; omega
  have d6 : decide ((al : Int) < (m : Int) * 4) = false := by simp; omega
  obtain ⟨f8, hf8⟩ : ∃ f8 : Nat, fl / 8192 = f8 := ⟨_, rfl⟩
  obtain ⟨f2, hf2⟩ : ∃ f2 : Nat, f8 % 2 = f2 := ⟨_, rfl⟩
  have hf8l : f8 ≤ 65535 := by omega
  have hf2l : f2 ≤ 1 := by omega
  have HQ : ∀ _ : Unit, (decide ((16384 : Int) ≤ (fl : Int)) = D) ∧ ((fl : Int).tdiv 8192 = (f8 : Int)) ∧ ((f8 : Int).tmod 2 = (f2 : Int)) ∧ (((f2 : Int) == 1) = M) ∧ ((fl : Int).tmod 8192 = (fo.toNat : Int)) := by
    intro _
    refine ⟨?_, ?_, ?_, ?_, ?_⟩
    · rewrite [← hD]; by_cases h : 16384 ≤ fl
      · rewrite [decide_eq_true h, decide_eq_true (by omega)]; exact rfl
      · rewrite [decide_eq_false h, decide_eq_false (by omega)]; exact rfl
    · rewrite [Int.tdiv_eq_ediv_of_nonneg (by omega)]; omega
    · rewrite [Int.tmod_eq_emod_of_nonneg (by omega)]; omega
    · rewrite [← hM, hf8, hf2, Bool.eq_iff_iff]; simp; omega
    · rewrite [Int.tmod_eq_emod_of_nonneg (by omega)]; omega
  have HID := fun (_ : Unit) => Lib.hid tid
  clear hD hM hf hf8 hf2 tid
  have hV0 : Below w.heap.size w (w.alloc (.cells #[.int .u8 0, .int .u16 0, .bool false, .bool false, .int .u16 0, .int .u8 0, .int .u8 0, .int .u32 0, .int .u32 0, .slice none 0 0, .slice none 0 0] 38)) := bnextA (Below.refl _ _) _
  have hR := Blk.new w #[.int .u8 0, .int .u16 0, .bool false, .bool false, .int .u16 0, .int .u8 0, .int .u8 0, .int .u32 0, .int .u32 0, .slice none 0 0, .slice none 0 0] 38
  clear hcell hm hx0 hV0a hN htl hts hfl hal tal tfl
  go_enter Try.func85, Try.ntmps85
  go_wp2_with fail
  refine (hON _ (hrt.nextA _)).out.mono ?_
  rintro e w1 ⟨rfl, rfl⟩
  replace hr := hr.next hV0
  generalize w.alloc (.cells #[.int .u8 0, .int .u16 0, .bool false, .bool false, .int .u16 0, .int .u8 0, .int .u8 0, .int .u32 0, .int .u32 0, .slice none 0 0, .slice none 0 0] 38) = V0 at hV0 hR hr k0 ⊢
  obtain ⟨m1, m2, m3, m4, m5, m6, m7, m8, m9⟩ := HC _ hV0
  clear hON hrt
  go_wp2_with fail
  go_quiet (fail)
  rw [(HAL ()).out]
  have hV1 := below_drewN hV0 nq
  replace hR := hR.drewN nq
  replace hr := hr.next (below_drewN (Below.refl V0.heap.size V0) nq)
  clear m1 m2 m3 m4 m5 m6 m7 m8 m9 k0
  generalize V0.drewN nq = V1 at hV1 hR hr ⊢
  obtain ⟨m1, m2, m3, m4, m5, m6, m7, m8, m9⟩ := HC _ hV1
  go_wp2_with fail
  go_quiet (fail)
  rw [(HFL ()).out]
  have hV2 := below_drewN hV1 nq
  replace hR := hR.drewN nq
  replace hr := hr.next (below_drewN (Below.refl V1.heap.size V1) nq)
  clear hV0 hV1 m1 m2 m3 m4 m5 m6 m7 m8 m9
  generalize V1.drewN nq = V at hV2 hR hr ⊢
  have HCC : ∀ U, Below V.heap.size V U → U.cell? ⟨b0, off + 1, none⟩ = some (.int .u8 (x1.toNat : Int)) ∧ U.cell? ⟨b0, off + 2, none⟩ = some (.int .u8 (x2.toNat : Int)) ∧ U.cell? ⟨b0, off + 3, none⟩ = some (.int .u8 (x3.toNat : Int)) ∧ U.cell? ⟨b0, off + 4, none⟩ = some (.int .u8 (x4.toNat : Int)) ∧ U.cell? ⟨b0, off + 5, none⟩ = some (.int .u8 (x5.toNat : Int)) ∧ U.cell? ⟨b0, off + 6, none⟩ = some (.int .u8 (x6.toNat : Int)) ∧ U.cell? ⟨b0, off + 7, none⟩ = some (.int .u8 (x7.toNat : Int)) ∧ U.cell? ⟨b0, off + 8, none⟩ = some (.int .u8 (x8.toNat : Int)) ∧ U.cell? ⟨b0, off + 9, none⟩ = some (.int .u8 (x9.toNat : Int)) := fun U h => HC U (hV2.trans (h.mono hV2.size))
  clear HC HAL HFL
  go_wp2_with fail
  refine region_put_last (by kernel_rfl) (by kernel_rfl) (by kernel_rfl) 129 rfl (by kernel_rfl) V (fun i v W => match i with
      | 0 => v = .slice (some ⟨b0, off, none⟩) xs.length c
      | 1 => v = .pointer (some ⟨b0, off + 1, none⟩)
      | 2 => v = .int .u8 (x1.toNat : Int)
      | 3 => v = .slice (some ⟨b0, off, none⟩) xs.length c
      | 4 => v = .pointer (some ⟨b0, off + 4, none⟩)
      | 5 => v = .int .u8 (x4.toNat : Int)
      | 6 => v = .int .u16 (x4.toNat : Int)
      | 7 => v = .int .u16 ((x4.toNat : Int) * 256)
      | 8 => v = .slice (some ⟨b0, off, none⟩) xs.length c
      | 9 => v = .pointer (some ⟨b0, off + 5, none⟩)
      | 10 => v = .int .u8 (x5.toNat : Int)
      | 11 => v = .int .u16 (x5.toNat : Int)
      | 12 => v = .int .u16 (id.toNat : Int)
      | 13 => v = .int .i64 (fl : Int)
      | 14 => v = .bool D
      | 15 => v = .int .i64 (fl : Int)
      | 16 => v = .int .i64 (f8 : Nat)
      | 17 => v = .int .i64 (f2 : Nat)
      | 18 => v = .bool M
      | 19 => v = .int .i64 (fl : Int)
      | 20 => v = .int .i64 (fo.toNat : Int)
      | 21 => v = .int .u16 (fo.toNat : Int)
      | 22 => v = .slice (some ⟨b0, off, none⟩) xs.length c
      | 23 => v = .pointer (some ⟨b0, off + 8, none⟩)
      | 24 => v = .int .u8 (x8.toNat : Int)
      | 25 => v = .slice (some ⟨b0, off, none⟩) xs.length c
      | 26 => v = .pointer (some ⟨b0, off + 9, none⟩)
      | 27 => v = .int .u8 (x9.toNat : Int)
      | 28 => v = .agg #[.int .u8 (x1.toNat : Int), .int .u16 (id.toNat : Int), .bool D, .bool M, .int .u16 (fo.toNat : Int), .int .u8 (x8.toNat : Int), .int .u8 (x9.toNat : Int), .int .u32 0, .int .u32 0, .slice none 0 0, .slice none 0 0]
      | 29 => ∃ g, v = .pointer (some ⟨g, 0, none⟩) ∧ V.heap.size ≤ g ∧ Blk W g [.int .u8 0, .int .u16 0, .bool false, .bool false, .int .u16 0, .int .u8 0, .int .u8 0, .int .u32 0, .int .u32 0, .slice none 0 0, .slice none 0 0] 38
      | _ => True) (Below.refl _ _) 30 rfl (by kernel_rfl) (by intro o h; obtain rfl := Option.some.inj h; rfl) ?_ ?_ ?_
  · intro i v W W' h hb
    match i, h with
    | 0, h => exact h
    | 1, h => exact h
    | 2, h => exact h
    | 3, h => exact h
    | 4, h => exact h
    | 5, h => exact h
    | 6, h => exact h
    | 7, h => exact h
    | 8, h => exact h
    | 9, h => exact h
    | 10, h => exact h
    | 11, h => exact h
    | 12, h => exact h
    | 13, h => exact h
    | 14, h => exact h
    | 15, h => exact h
    | 16, h => exact h
    | 17, h => exact h
    | 18, h => exact h
    | 19, h => exact h
    | 20, h => exact h
    | 21, h => exact h
    | 22, h => exact h
    | 23, h => exact h
    | 24, h => exact h
    | 25, h => exact h
    | 26, h => exact h
    | 27, h => exact h
    | 28, h => exact h
    | 29, h => obtain ⟨g, h1, h2, h3⟩ := h; exact ⟨g, h1, h2, h3.next hb⟩
    | _ + 30, _ => trivial
  · intro i oo uu W him hoo hVW hd
    rcases i with _|_|_|_|_|_|_|_|_|_|_|_|_|_|_|_|_|_|_|_|_|_|_|_|_|_|_|_|_|_|i
    · obtain rfl := Option.some.inj hoo
      refine .inl ⟨wanted_none rfl, ?_⟩
      generalize hev : Act.eval _ = ev
      have ec : ∀ c, ev (.const c) = c := fun c => by rw [← hev]; rfl
      have e0 : ev (.tmp 0) = .slice (some ⟨b0, off, none⟩) xs.length c := by rw [← hev]; exact eval_old (by kernel_rfl) 129 rfl (by decide) rfl
      clear hev hd
      exact .inl ⟨_, W, by go_simp, rfl, Below.refl _ _⟩
    · obtain rfl := Option.some.inj hoo
      have q0 : uu 0 = .slice (some ⟨b0, off, none⟩) xs.length c := hd 0 (by kernel_rfl)
      refine .inl ⟨wanted_none rfl, ?_⟩
      generalize hev : Act.eval _ = ev
      have ec : ∀ c, ev (.const c) = c := fun c => by rw [← hev]; rfl
      have e69 : ev (.tmp 69) = .slice (some ⟨b0, off, none⟩) xs.length c := by rw [← hev]; exact (eval_put (by kernel_rfl) 129 rfl (by decide)).trans q0
      clear hev hd q0
      exact .inl ⟨_, W, by go_simp, rfl, Below.refl _ _⟩
    · obtain rfl := Option.some.inj hoo
      have q1 : uu 1 = .pointer (some ⟨b0, off + 1, none⟩) := hd 1 (by kernel_rfl)
      refine .inl ⟨wanted_none rfl, ?_⟩
      generalize hev : Act.eval _ = ev
      have ec : ∀ c, ev (.const c) = c := fun c => by rw [← hev]; rfl
      have e70 : ev (.tmp 70) = .pointer (some ⟨b0, off + 1, none⟩) := by rw [← hev]; exact (eval_put (by kernel_rfl) 129 rfl (by decide)).trans q1
      clear hev hd q1
      obtain ⟨cc0, cc1, cc2, cc3, cc4, cc5, cc6, cc7, cc8⟩ := HCC W hVW
      exact .inl ⟨_, W, by go_simp, rfl, Below.refl _ _⟩
    · obtain rfl := Option.some.inj hoo
      refine .inl ⟨wanted_none rfl, ?_⟩
      generalize hev : Act.eval _ = ev
      have ec : ∀ c, ev (.const c) = c := fun c => by rw [← hev]; rfl
      have e0 : ev (.tmp 0) = .slice (some ⟨b0, off, none⟩) xs.length c := by rw [← hev]; exact eval_old (by kernel_rfl) 129 rfl (by decide) rfl
      clear hev hd
      exact .inl ⟨_, W, by go_simp, rfl, Below.refl _ _⟩
    · obtain rfl := Option.some.inj hoo
      have q3 : uu 3 = .slice (some ⟨b0, off, none⟩) xs.length c := hd 3 (by kernel_rfl)
      refine .inl ⟨wanted_none rfl, ?_⟩
      generalize hev : Act.eval _ = ev
      have ec : ∀ c, ev (.const c) = c := fun c => by rw [← hev]; rfl
      have e72 : ev (.tmp 72) = .slice (some ⟨b0, off, none⟩) xs.length c := by rw [← hev]; exact (eval_put (by kernel_rfl) 129 rfl (by decide)).trans q3
      clear hev hd q3
      exact .inl ⟨_, W, by go_simp, rfl, Below.refl _ _⟩
    · obtain rfl := Option.some.inj hoo
      have q4 : uu 4 = .pointer (some ⟨b0, off + 4, none⟩) := hd 4 (by kernel_rfl)
      refine .inl ⟨wanted_none rfl, ?_⟩
      generalize hev : Act.eval _ = ev
      have ec : ∀ c, ev (.const c) = c := fun c => by rw [← hev]; rfl
      have e73 : ev (.tmp 73) = .pointer (some ⟨b0, off + 4, none⟩) := by rw [← hev]; exact (eval_put (by kernel_rfl) 129 rfl (by decide)).trans q4
      clear hev hd q4
      obtain ⟨cc0, cc1, cc2, cc3, cc4, cc5, cc6, cc7, cc8⟩ := HCC W hVW
      exact .inl ⟨_, W, by go_simp, rfl, Below.refl _ _⟩
    · obtain rfl := Option.some.inj hoo
      have q5 : uu 5 = .int .u8 (x4.toNat : Int) := hd 5 (by kernel_rfl)
      refine .inl ⟨wanted_none rfl, ?_⟩
      generalize hev : Act.eval _ = ev
      have ec : ∀ c, ev (.const c) = c := fun c => by rw [← hev]; rfl
      have e74 : ev (.tmp 74) = .int .u8 (x4.toNat : Int) := by rw [← hev]; exact (eval_put (by kernel_rfl) 129 rfl (by decide)).trans q5
      clear hev hd q5
      have hw : IntKind.u16.wrap ((x4.toNat : Int)) = (x4.toNat : Int) := by rw [IntKind.wrap_u16]; omega
      exact .inl ⟨_, W, by go_simp, rfl, Below.refl _ _⟩
    · obtain rfl := Option.some.inj hoo
      have q6 : uu 6 = .int .u16 (x4.toNat : Int) := hd 6 (by kernel_rfl)
      refine .inl ⟨wanted_none rfl, ?_⟩
      generalize hev : Act.eval _ = ev
      have ec : ∀ c, ev (.const c) = c := fun c => by rw [← hev]; rfl
      have e75 : ev (.tmp 75) = .int .u16 (x4.toNat : Int) := by rw [← hev]; exact (eval_put (by kernel_rfl) 129 rfl (by decide)).trans q6
      clear hev hd q6
      have hw : IntKind.u16.wrap ((x4.toNat : Int) * 256) = (x4.toNat : Int) * 256 := by rw [IntKind.wrap_u16]; omega
      exact .inl ⟨_, W, by go_simp, rfl, Below.refl _ _⟩
    · obtain rfl := Option.some.inj hoo
      refine .inl ⟨wanted_none rfl, ?_⟩
      generalize hev : Act.eval _ = ev
      have ec : ∀ c, ev (.const c) = c := fun c => by rw [← hev]; rfl
      have e0 : ev (.tmp 0) = .slice (some ⟨b0, off, none⟩) xs.length c := by rw [← hev]; exact eval_old (by kernel_rfl) 129 rfl (by decide) rfl
      clear hev hd
      exact .inl ⟨_, W, by go_simp, rfl, Below.refl _ _⟩
    · obtain rfl := Option.some.inj hoo
      have q8 : uu 8 = .slice (some ⟨b0, off, none⟩) xs.length c := hd 8 (by kernel_rfl)
      refine .inl ⟨wanted_none rfl, ?_⟩
      generalize hev : Act.eval _ = ev
      have ec : ∀ c, ev (.const c) = c := fun c => by rw [← hev]; rfl
      have e77 : ev (.tmp 77) = .slice (some ⟨b0, off, none⟩) xs.length c := by rw [← hev]; exact (eval_put (by kernel_rfl) 129 rfl (by decide)).trans q8
      clear hev hd q8
      exact .inl ⟨_, W, by go_simp, rfl, Below.refl _ _⟩
    · obtain rfl := Option.some.inj hoo
      have q9 : uu 9 = .pointer (some ⟨b0, off + 5, none⟩) := hd 9 (by kernel_rfl)
      refine .inl ⟨wanted_none rfl, ?_⟩
      generalize hev : Act.eval _ = ev
      have ec : ∀ c, ev (.const c) = c := fun c => by rw [← hev]; rfl
      have e78 : ev (.tmp 78) = .pointer (some ⟨b0, off + 5, none⟩) := by rw [← hev]; exact (eval_put (by kernel_rfl) 129 rfl (by decide)).trans q9
      clear hev hd q9
      obtain ⟨cc0, cc1, cc2, cc3, cc4, cc5, cc6, cc7, cc8⟩ := HCC W hVW
      exact .inl ⟨_, W, by go_simp, rfl, Below.refl _ _⟩
    · obtain rfl := Option.some.inj hoo
      have q10 : uu 10 = .int .u8 (x5.toNat : Int) := hd 10 (by kernel_rfl)
      refine .inl ⟨wanted_none rfl, ?_⟩
      generalize hev : Act.eval _ = ev
      have ec : ∀ c, ev (.const c) = c := fun c => by rw [← hev]; rfl
      have e79 : ev (.tmp 79) = .int .u8 (x5.toNat : Int) := by rw [← hev]; exact (eval_put (by kernel_rfl) 129 rfl (by decide)).trans q10
      clear hev hd q10
      have hw : IntKind.u16.wrap ((x5.toNat : Int)) = (x5.toNat : Int) := by rw [IntKind.wrap_u16]; omega
      exact .inl ⟨_, W, by go_simp, rfl, Below.refl _ _⟩
    · obtain rfl := Option.some.inj hoo
      have q7 : uu 7 = .int .u16 ((x4.toNat : Int) * 256) := hd 7 (by kernel_rfl)
      have q11 : uu 11 = .int .u16 (x5.toNat : Int) := hd 11 (by kernel_rfl)
      refine .inl ⟨wanted_none rfl, ?_⟩
      generalize hev : Act.eval _ = ev
      have ec : ∀ c, ev (.const c) = c := fun c => by rw [← hev]; rfl
      have e76 : ev (.tmp 76) = .int .u16 ((x4.toNat : Int) * 256) := by rw [← hev]; exact (eval_put (by kernel_rfl) 129 rfl (by decide)).trans q7
      have e80 : ev (.tmp 80) = .int .u16 (x5.toNat : Int) := by rw [← hev]; exact (eval_put (by kernel_rfl) 129 rfl (by decide)).trans q11
      clear hev hd q7 q11
      have hh := (HID ()).out
      have hlt16 := id.toNat_lt
      have hw : IntKind.u16.wrap ((id.toNat : Int)) = (id.toNat : Int) := by rw [IntKind.wrap_u16]; omega
      exact .inl ⟨_, W, by go_simp, rfl, Below.refl _ _⟩
    · obtain rfl := Option.some.inj hoo
      refine .inl ⟨wanted_none rfl, ?_⟩
      generalize hev : Act.eval _ = ev
      have ec : ∀ c, ev (.const c) = c := fun c => by rw [← hev]; rfl
      have e6 : ev (.tmp 6) = .int .i64 (fl : Int) := by rw [← hev]; exact eval_old (by kernel_rfl) 129 rfl (by decide) rfl
      clear hev hd
      exact .inl ⟨_, W, by go_simp, rfl, Below.refl _ _⟩
    · obtain rfl := Option.some.inj hoo
      have q13 : uu 13 = .int .i64 (fl : Int) := hd 13 (by kernel_rfl)
      refine .inl ⟨wanted_none rfl, ?_⟩
      generalize hev : Act.eval _ = ev
      have ec : ∀ c, ev (.const c) = c := fun c => by rw [← hev]; rfl
      have e82 : ev (.tmp 82) = .int .i64 (fl : Int) := by rw [← hev]; exact (eval_put (by kernel_rfl) 129 rfl (by decide)).trans q13
      clear hev hd q13
      have hh := (HQ ()).1
      exact .inl ⟨_, W, by go_simp, rfl, Below.refl _ _⟩
    · obtain rfl := Option.some.inj hoo
      refine .inl ⟨wanted_none rfl, ?_⟩
      generalize hev : Act.eval _ = ev
      have ec : ∀ c, ev (.const c) = c := fun c => by rw [← hev]; rfl
      have e6 : ev (.tmp 6) = .int .i64 (fl : Int) := by rw [← hev]; exact eval_old (by kernel_rfl) 129 rfl (by decide) rfl
      clear hev hd
      exact .inl ⟨_, W, by go_simp, rfl, Below.refl _ _⟩
    · obtain rfl := Option.some.inj hoo
      have q15 : uu 15 = .int .i64 (fl : Int) := hd 15 (by kernel_rfl)
      refine .inl ⟨wanted_none rfl, ?_⟩
      generalize hev : Act.eval _ = ev
      have ec : ∀ c, ev (.const c) = c := fun c => by rw [← hev]; rfl
      have e84 : ev (.tmp 84) = .int .i64 (fl : Int) := by rw [← hev]; exact (eval_put (by kernel_rfl) 129 rfl (by decide)).trans q15
      clear hev hd q15
      have hh := (HQ ()).2.1
      have hw : IntKind.i64.wrap (f8 : Int) = (f8 : Int) := by rw [IntKind.wrap_i64]; omega
      exact .inl ⟨_, W, by go_simp, rfl, Below.refl _ _⟩
    · obtain rfl := Option.some.inj hoo
      have q16 : uu 16 = .int .i64 (f8 : Nat) := hd 16 (by kernel_rfl)
      refine .inl ⟨wanted_none rfl, ?_⟩
      generalize hev : Act.eval _ = ev
      have ec : ∀ c, ev (.const c) = c := fun c => by rw [← hev]; rfl
      have e85 : ev (.tmp 85) = .int .i64 (f8 : Nat) := by rw [← hev]; exact (eval_put (by kernel_rfl) 129 rfl (by decide)).trans q16
      clear hev hd q16
      have hh := (HQ ()).2.2.1
      have hw : IntKind.i64.wrap (f2 : Int) = (f2 : Int) := by rw [IntKind.wrap_i64]; omega
      exact .inl ⟨_, W, by go_simp, rfl, Below.refl _ _⟩
    · obtain rfl := Option.some.inj hoo
      have q17 : uu 17 = .int .i64 (f2 : Nat) := hd 17 (by kernel_rfl)
      refine .inl ⟨wanted_none rfl, ?_⟩
      generalize hev : Act.eval _ = ev
      have ec : ∀ c, ev (.const c) = c := fun c => by rw [← hev]; rfl
      have e86 : ev (.tmp 86) = .int .i64 (f2 : Nat) := by rw [← hev]; exact (eval_put (by kernel_rfl) 129 rfl (by decide)).trans q17
      clear hev hd q17
      have hh := (HQ ()).2.2.2.1
      exact .inl ⟨_, W, by go_simp, rfl, Below.refl _ _⟩
    · obtain rfl := Option.some.inj hoo
      refine .inl ⟨wanted_none rfl, ?_⟩
      generalize hev : Act.eval _ = ev
      have ec : ∀ c, ev (.const c) = c := fun c => by rw [← hev]; rfl
      have e6 : ev (.tmp 6) = .int .i64 (fl : Int) := by rw [← hev]; exact eval_old (by kernel_rfl) 129 rfl (by decide) rfl
      clear hev hd
      exact .inl ⟨_, W, by go_simp, rfl, Below.refl _ _⟩
    · obtain rfl := Option.some.inj hoo
      have q19 : uu 19 = .int .i64 (fl : Int) := hd 19 (by kernel_rfl)
      refine .inl ⟨wanted_none rfl, ?_⟩
      generalize hev : Act.eval _ = ev
      have ec : ∀ c, ev (.const c) = c := fun c => by rw [← hev]; rfl
      have e88 : ev (.tmp 88) = .int .i64 (fl : Int) := by rw [← hev]; exact (eval_put (by kernel_rfl) 129 rfl (by decide)).trans q19
      clear hev hd q19
      have hh := (HQ ()).2.2.2.2
      exact .inl ⟨_, W, by go_simp, rfl, Below.refl _ _⟩
    · obtain rfl := Option.some.inj hoo
      have q20 : uu 20 = .int .i64 (fo.toNat : Int) := hd 20 (by kernel_rfl)
      refine .inl ⟨wanted_none rfl, ?_⟩
      generalize hev : Act.eval _ = ev
      have ec : ∀ c, ev (.const c) = c := fun c => by rw [← hev]; rfl
      have e89 : ev (.tmp 89) = .int .i64 (fo.toNat : Int) := by rw [← hev]; exact (eval_put (by kernel_rfl) 129 rfl (by decide)).trans q20
      clear hev hd q20
      have hlt16 := fo.toNat_lt
      have hw : IntKind.u16.wrap ((fo.toNat : Int)) = (fo.toNat : Int) := by rw [IntKind.wrap_u16]; omega
      exact .inl ⟨_, W, by go_simp, rfl, Below.refl _ _⟩
    · obtain rfl := Option.some.inj hoo
      refine .inl ⟨wanted_none rfl, ?_⟩
      generalize hev : Act.eval _ = ev
      have ec : ∀ c, ev (.const c) = c := fun c => by rw [← hev]; rfl
      have e0 : ev (.tmp 0) = .slice (some ⟨b0, off, none⟩) xs.length c := by rw [← hev]; exact eval_old (by kernel_rfl) 129 rfl (by decide) rfl
      clear hev hd
      exact .inl ⟨_, W, by go_simp, rfl, Below.refl _ _⟩
    · obtain rfl := Option.some.inj hoo
      have q22 : uu 22 = .slice (some ⟨b0, off, none⟩) xs.length c := hd 22 (by kernel_rfl)
      refine .inl ⟨wanted_none rfl, ?_⟩
      generalize hev : Act.eval _ = ev
      have ec : ∀ c, ev (.const c) = c := fun c => by rw [← hev]; rfl
      have e91 : ev (.tmp 91) = .slice (some ⟨b0, off, none⟩) xs.length c := by rw [← hev]; exact (eval_put (by kernel_rfl) 129 rfl (by decide)).trans q22
      clear hev hd q22
      exact .inl ⟨_, W, by go_simp, rfl, Below.refl _ _⟩
    · obtain rfl := Option.some.inj hoo
      have q23 : uu 23 = .pointer (some ⟨b0, off + 8, none⟩) := hd 23 (by kernel_rfl)
      refine .inl ⟨wanted_none rfl, ?_⟩
      generalize hev : Act.eval _ = ev
      have ec : ∀ c, ev (.const c) = c := fun c => by rw [← hev]; rfl
      have e92 : ev (.tmp 92) = .pointer (some ⟨b0, off + 8, none⟩) := by rw [← hev]; exact (eval_put (by kernel_rfl) 129 rfl (by decide)).trans q23
      clear hev hd q23
      obtain ⟨cc0, cc1, cc2, cc3, cc4, cc5, cc6, cc7, cc8⟩ := HCC W hVW
      exact .inl ⟨_, W, by go_simp, rfl, Below.refl _ _⟩
    · obtain rfl := Option.some.inj hoo
      refine .inl ⟨wanted_none rfl, ?_⟩
      generalize hev : Act.eval _ = ev
      have ec : ∀ c, ev (.const c) = c := fun c => by rw [← hev]; rfl
      have e0 : ev (.tmp 0) = .slice (some ⟨b0, off, none⟩) xs.length c := by rw [← hev]; exact eval_old (by kernel_rfl) 129 rfl (by decide) rfl
      clear hev hd
      exact .inl ⟨_, W, by go_simp, rfl, Below.refl _ _⟩
    · obtain rfl := Option.some.inj hoo
      have q25 : uu 25 = .slice (some ⟨b0, off, none⟩) xs.length c := hd 25 (by kernel_rfl)
      refine .inl ⟨wanted_none rfl, ?_⟩
      generalize hev : Act.eval _ = ev
      have ec : ∀ c, ev (.const c) = c := fun c => by rw [← hev]; rfl
      have e94 : ev (.tmp 94) = .slice (some ⟨b0, off, none⟩) xs.length c := by rw [← hev]; exact (eval_put (by kernel_rfl) 129 rfl (by decide)).trans q25
      clear hev hd q25
      exact .inl ⟨_, W, by go_simp, rfl, Below.refl _ _⟩
    · obtain rfl := Option.some.inj hoo
      have q26 : uu 26 = .pointer (some ⟨b0, off + 9, none⟩) := hd 26 (by kernel_rfl)
      refine .inl ⟨wanted_none rfl, ?_⟩
      generalize hev : Act.eval _ = ev
      have ec : ∀ c, ev (.const c) = c := fun c => by rw [← hev]; rfl
      have e95 : ev (.tmp 95) = .pointer (some ⟨b0, off + 9, none⟩) := by rw [← hev]; exact (eval_put (by kernel_rfl) 129 rfl (by decide)).trans q26
      clear hev hd q26
      obtain ⟨cc0, cc1, cc2, cc3, cc4, cc5, cc6, cc7, cc8⟩ := HCC W hVW
      exact .inl ⟨_, W, by go_simp, rfl, Below.refl _ _⟩
    · obtain rfl := Option.some.inj hoo
      have q2 : uu 2 = .int .u8 (x1.toNat : Int) := hd 2 (by kernel_rfl)
      have q12 : uu 12 = .int .u16 (id.toNat : Int) := hd 12 (by kernel_rfl)
      have q14 : uu 14 = .bool D := hd 14 (by kernel_rfl)
      have q18 : uu 18 = .bool M := hd 18 (by kernel_rfl)
      have q21 : uu 21 = .int .u16 (fo.toNat : Int) := hd 21 (by kernel_rfl)
      have q24 : uu 24 = .int .u8 (x8.toNat : Int) := hd 24 (by kernel_rfl)
      have q27 : uu 27 = .int .u8 (x9.toNat : Int) := hd 27 (by kernel_rfl)
      refine .inl ⟨wanted_none rfl, ?_⟩
      generalize hev : Act.eval _ = ev
      have ec : ∀ c, ev (.const c) = c := fun c => by rw [← hev]; rfl
      have e71 : ev (.tmp 71) = .int .u8 (x1.toNat : Int) := by rw [← hev]; exact (eval_put (by kernel_rfl) 129 rfl (by decide)).trans q2
      have e81 : ev (.tmp 81) = .int .u16 (id.toNat : Int) := by rw [← hev]; exact (eval_put (by kernel_rfl) 129 rfl (by decide)).trans q12
      have e83 : ev (.tmp 83) = .bool D := by rw [← hev]; exact (eval_put (by kernel_rfl) 129 rfl (by decide)).trans q14
      have e87 : ev (.tmp 87) = .bool M := by rw [← hev]; exact (eval_put (by kernel_rfl) 129 rfl (by decide)).trans q18
      have e90 : ev (.tmp 90) = .int .u16 (fo.toNat : Int) := by rw [← hev]; exact (eval_put (by kernel_rfl) 129 rfl (by decide)).trans q21
      have e93 : ev (.tmp 93) = .int .u8 (x8.toNat : Int) := by rw [← hev]; exact (eval_put (by kernel_rfl) 129 rfl (by decide)).trans q24
      have e96 : ev (.tmp 96) = .int .u8 (x9.toNat : Int) := by rw [← hev]; exact (eval_put (by kernel_rfl) 129 rfl (by decide)).trans q27
      clear hev hd q2 q12 q14 q18 q21 q24 q27
      exact .inl ⟨_, W, by go_simp, rfl, Below.refl _ _⟩
    · obtain rfl := Option.some.inj hoo
      refine .inl ⟨wanted_none rfl, ?_⟩
      generalize hev : Act.eval _ = ev
      have ec : ∀ c, ev (.const c) = c := fun c => by rw [← hev]; rfl
      clear hev hd
      exact .inl ⟨_, W.alloc (.cells #[.int .u8 0, .int .u16 0, .bool false, .bool false, .int .u16 0, .int .u8 0, .int .u8 0, .int .u32 0, .int .u32 0, .slice none 0 0, .slice none 0 0] 38), by go_simp, ⟨W.heap.size, rfl, hVW.size, Blk.new W #[.int .u8 0, .int .u16 0, .bool false, .bool false, .int .u16 0, .int .u8 0, .int .u8 0, .int .u32 0, .int .u32 0, .slice none 0 0, .slice none 0 0] 38⟩, bnextA (Below.refl _ _) _⟩
    · omega
  · intro oo uu W hoo hVW hall
    obtain rfl := Option.some.inj hoo
    obtain ⟨g29, q29, hle29, hbk29⟩ := hall 29 (by decide)
    have q28 : uu 28 = .agg #[.int .u8 (x1.toNat : Int), .int .u16 (id.toNat : Int), .bool D, .bool M, .int .u16 (fo.toNat : Int), .int .u8 (x8.toNat : Int), .int .u8 (x9.toNat : Int), .int .u32 0, .int .u32 0, .slice none 0 0, .slice none 0 0] := hall 28 (by decide)
    refine ⟨wanted_none rfl, ?_⟩
    generalize hev : Act.eval _ = ev
    have ec : ∀ c, ev (.const c) = c := fun c => by rw [← hev]; rfl
    have e7 : ev (.tmp 7) = .pointer (some ⟨g29, 0, none⟩) := by rw [← hev]; exact (eval_put (by kernel_rfl) 129 rfl (by decide)).trans q29
    have e97 : ev (.tmp 97) = .agg #[.int .u8 (x1.toNat : Int), .int .u16 (id.toNat : Int), .bool D, .bool M, .int .u16 (fo.toNat : Int), .int .u8 (x8.toNat : Int), .int .u8 (x9.toNat : Int), .int .u32 0, .int .u32 0, .slice none 0 0, .slice none 0 0] := by rw [← hev]; exact (eval_put (by kernel_rfl) 129 rfl (by decide)).trans q28
    clear hev hall
    obtain ⟨p0, p1, p2, p3, p4, p5, p6, p7, p8, p9, p10, g0, g1, g2, g3, g4, g5, g6, g7, g8, g9, g10⟩ := hbk29.get11
    refine ⟨_, by (go_simp <;> rfl), ?_⟩
    clear HCC HID HQ
    simp only [putAll, Act.put, Nat.reduceAdd, q29]
    simp only [List.setIfInBounds_toArray, List.set_cons_succ, List.set_cons_zero]
    have hWU := bset11 hVW hle29 (.int .u8 (x1.toNat : Int)) (.int .u16 (id.toNat : Int)) (.bool D) (.bool M) (.int .u16 (fo.toNat : Int)) (.int .u8 (x8.toNat : Int)) (.int .u8 (x9.toNat : Int)) (.int .u32 0) (.int .u32 0) (.slice none 0 0) (.slice none 0 0)
    have hK := hbk29.set11 (u0 := .int .u8 (x1.toNat : Int)) (u1 := .int .u16 (id.toNat : Int)) (u2 := .bool D) (u3 := .bool M) (u4 := .int .u16 (fo.toNat : Int)) (u5 := .int .u8 (x8.toNat : Int)) (u6 := .int .u8 (x9.toNat : Int)) (u7 := .int .u32 0) (u8 := .int .u32 0) (u9 := .slice none 0 0) (u10 := .slice none 0 0)
    have hgl := Nat.lt_of_lt_of_le hR.lt hle29
    clear p0 p1 p2 p3 p4 p5 p6 p7 p8 p9 p10 g0 g1 g2 g3 g4 g5 g6 g7 g8 g9 g10
    simp only [setAll11] at hWU hK
    go_wp2_with fail
    refine (HG12 _ (hr.next hWU)).out.mono ?_
    rintro e w11 ⟨rfl, rfl⟩
    clear HG12
    obtain ⟨p0, p1, p2, p3, p4, p5, p6, p7, p8, p9, p10, g0, g1, g2, g3, g4, g5, g6, g7, g8, g9, g10⟩ := hK.get11
    go_wp2_with fail
    replace hWU := hWU.setCell (p := ⟨g29, 7, none⟩) hle29 (.int .u32 (s.toNat : Int))
    replace hK := hK.set 7 (.int .u32 (s.toNat : Int))
    clear p0 p1 p2 p3 p4 p5 p6 p7 p8 p9 p10 g0 g1 g2 g3 g4 g5 g6 g7 g8 g9 g10
    go_wp2_with fail
    refine (HG16 _ (hr.next hWU)).out.mono ?_
    rintro e w12 ⟨rfl, rfl⟩
    clear HG16
    obtain ⟨p0, p1, p2, p3, p4, p5, p6, p7, p8, p9, p10, g0, g1, g2, g3, g4, g5, g6, g7, g8, g9, g10⟩ := hK.get11
    go_wp2_with fail
    replace hWU := hWU.setCell (p := ⟨g29, 8, none⟩) hle29 (.int .u32 (d.toNat : Int))
    replace hK := hK.set 8 (.int .u32 (d.toNat : Int))
    clear p0 p1 p2 p3 p4 p5 p6 p7 p8 p9 p10 g0 g1 g2 g3 g4 g5 g6 g7 g8 g9 g10
    refine (HCUT1 _ (hr.next hWU)).out.mono ?_
    rintro e w20 ⟨v20, rfl, hown, hbel⟩
    obtain ⟨Lo, Ao, co, HLo, rfl, -⟩ := hown.rdv
    have hbase := hK.lt
    replace hWU := hWU.trans (hbel.mono hWU.size)
    replace hK := hK.next hbel
    rw [← HLo.out] at hown
    have hOo := hown
    clear hbel hown HCUT1
    obtain ⟨p0, p1, p2, p3, p4, p5, p6, p7, p8, p9, p10, g0, g1, g2, g3, g4, g5, g6, g7, g8, g9, g10⟩ := hK.get11
    go_wp2_with fail
    replace hWU := hWU.setCell (p := ⟨g29, 9, none⟩) hle29 (.slice Ao Lo.length co)
    replace hK := hK.set 9 (.slice Ao Lo.length co)
    replace hOo := hOo.setBelow (p := ⟨g29, 9, none⟩) hbase (.slice Ao Lo.length co)
    clear p0 p1 p2 p3 p4 p5 p6 p7 p8 p9 p10 g0 g1 g2 g3 g4 g5 g6 g7 g8 g9 g10
    refine (HCUT2 _ (hr.next hWU)).out.mono ?_
    rintro e w21 ⟨v21, rfl, hown, hbel⟩
    obtain ⟨Lx, Ax, cx, HLx, rfl, -⟩ := hown.rdv
    have hbase2 := hK.lt
    replace hWU := hWU.trans (hbel.mono hWU.size)
    replace hK := hK.next hbel
    replace hOo := hOo.nextO hbel
    rw [← HLx.out] at hown
    have hOx := hown
    clear hbel hown HCUT2
    obtain ⟨p0, p1, p2, p3, p4, p5, p6, p7, p8, p9, p10, g0, g1, g2, g3, g4, g5, g6, g7, g8, g9, g10⟩ := hK.get11
    obtain ⟨t0, t1, t2, t3, t4, t5, t6, t7, t8, t9, t10, s0, s1, s2, s3, s4, s5, s6, s7, s8, s9, s10⟩ := (hR.next hWU).get11
    have hne1 : ¬ w.heap.size = g29 := by omega
    have hne2 : ¬ g29 = w.heap.size := by omega
    replace hV2 := hV2.trans (hWU.mono (Nat.le_of_lt hR.lt))
    have HO1 := Lib.hid hOo
    have HO2 := Lib.hid hOx
    clear hK hR hWU hOo hOx hr
    go_wp2_with fail
    simp [bodyPost, results, Try.results85, go_sem, *]
    have e1 := ((HO1.out.setBelow (p := ⟨g29, 10, none⟩) hbase (.slice Ax Lx.length cx)).set11 (g := w.heap.size) (Nat.lt_trans hgl hbase) (.int .u8 (x1.toNat : Int)) (.int .u16 (id.toNat : Int)) (.bool D) (.bool M) (.int .u16 (fo.toNat : Int)) (.int .u8 (x8.toNat : Int)) (.int .u8 (x9.toNat : Int)) (.int .u32 (s.toNat : Int)) (.int .u32 (d.toNat : Int)) (.slice Ao Lo.length co) (.slice Ax Lx.length cx)).rdS
    have e2 := ((HO2.out.setBelow (p := ⟨g29, 10, none⟩) hbase2 (.slice Ax Lx.length cx)).set11 (g := w.heap.size) (Nat.lt_trans hgl hbase2) (.int .u8 (x1.toNat : Int)) (.int .u16 (id.toNat : Int)) (.bool D) (.bool M) (.int .u16 (fo.toNat : Int)) (.int .u8 (x8.toNat : Int)) (.int .u8 (x9.toNat : Int)) (.int .u32 (s.toNat : Int)) (.int .u32 (d.toNat : Int)) (.slice Ao Lo.length co) (.slice Ax Lx.length cx)).rdS
    exact ⟨Lo, Ao, co, Lx, Ax, cx, ⟨⟨rfl, rfl, rfl⟩, rfl, rfl, rfl⟩, HLo, HLx, by simpa [setAll11] using e1, by simpa [setAll11] using e2, bset11 (hV2.setCell (p := ⟨g29, 10, none⟩) (Nat.le_of_lt hgl) _) (Nat.le_refl _) _ _ _ _ _ _ _ _ _ _ _⟩

end Go.Proofs.Ytkoamiefombilaa
