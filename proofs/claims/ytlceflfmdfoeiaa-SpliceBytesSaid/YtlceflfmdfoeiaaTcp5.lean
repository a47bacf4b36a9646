/- Contracts of the reference's Parse of segments. -/
import Derived.Test.YtlceflfmdfoeiaaTcp4
import Derived.Test.YtlceflfmdfoeiaaReg2
namespace Go.Proofs.Ytlceflfmdfoeiaa
open Go.RowKit

theorem rtparse_short (s d : UInt32) (A : Option Addr) (c : Nat) (xs : List UInt8) (w : World) (hr : Rd bv w w.heap.size A c xs) (h20 : xs.length < 20) :
    Calls Try.prog 12 #[.int .u32 (s.toNat : Int), .int .u32 (d.toNat : Int), .slice A xs.length c] w fun e w' => e = .returned (.tuple #[.agg #[.int .u16 0, .int .u16 0, .int .u32 0, .int .u32 0, .int .u8 0, .int .u8 0, .int .u16 0, .int .u16 0, .slice none 0 0, .slice none 0 0], .int .i64 4]) ∧ Below w.heap.size w w' := by
  have hlc := hr.len
  have hcc := hr.cap
  go_enter Try.func12, Try.ntmps12
  go_wp2_with fail
  simp [bodyPost, results, Try.results12, go_sem, *]
  exact bnextA (Below.refl _ _) _

theorem rtparse_form0 (s d : UInt32) (A : Option Addr) (c : Nat) (xs : List UInt8) (w : World) (hr : Rd bv w w.heap.size A c xs) (h20 : 20 ≤ xs.length) (hm : (xs[12]).toNat / 16 < 5) :
    Calls Try.prog 12 #[.int .u32 (s.toNat : Int), .int .u32 (d.toNat : Int), .slice A xs.length c] w fun e w' => e = .returned (.tuple #[.agg #[.int .u16 0, .int .u16 0, .int .u32 0, .int .u32 0, .int .u8 0, .int .u8 0, .int .u16 0, .int .u16 0, .slice none 0 0, .slice none 0 0], .int .i64 3]) ∧ Below w.heap.size w w' := by
  have hlc := hr.len
  have hcc := hr.cap
  obtain ⟨b0, off, rfl, hB0, hcell⟩ := byt_at hr (k := 12) (by omega)
  have k12 := ((bnextA (Below.refl w.heap.size w) (.cells #[.int .u16 0, .int .u16 0, .int .u32 0, .int .u32 0, .int .u8 0, .int .u8 0, .int .u16 0, .int .u16 0, .slice none 0 0, .slice none 0 0] 26)).cell hB0).trans (hcell 12 (by omega))
  have hx12 := (xs[12]).toNat_lt
  have i12 : (12 : Int) < (xs.length : Int) := by omega
  generalize xs[12] = x12 at *
  clear hcell hr
  go_enter Try.func12, Try.ntmps12
  go_wp2_with fail
  simp [bodyPost, results, Try.results12, go_sem, *]
  exact bnextA (Below.refl _ _) _

theorem rtparse_long (s d : UInt32) (A : Option Addr) (c : Nat) (xs : List UInt8) (w : World) (hr : Rd bv w w.heap.size A c xs) (h20 : 20 ≤ xs.length) (hm : 5 ≤ (xs[12]).toNat / 16) (hbig : xs.length ≤ 65535) (hl : xs.length < 4 * ((xs[12]).toNat / 16)) :
    Calls Try.prog 12 #[.int .u32 (s.toNat : Int), .int .u32 (d.toNat : Int), .slice A xs.length c] w fun e w' => e = .returned (.tuple #[.agg #[.int .u16 0, .int .u16 0, .int .u32 0, .int .u32 0, .int .u8 0, .int .u8 0, .int .u16 0, .int .u16 0, .slice none 0 0, .slice none 0 0], .int .i64 4]) ∧ Below w.heap.size w w' := by
  have hlc := hr.len
  have hcc := hr.cap
  obtain ⟨b0, off, rfl, hB0, hcell⟩ := byt_at hr (k := 12) (by omega)
  have k12 := ((bnextA (Below.refl w.heap.size w) (.cells #[.int .u16 0, .int .u16 0, .int .u32 0, .int .u32 0, .int .u8 0, .int .u8 0, .int .u16 0, .int .u16 0, .slice none 0 0, .slice none 0 0] 26)).cell hB0).trans (hcell 12 (by omega))
  have hx12 := (xs[12]).toNat_lt
  have i12 : (12 : Int) < (xs.length : Int) := by omega
  generalize xs[12] = x12 at *
  clear hcell hr
  go_enter Try.func12, Try.ntmps12
  go_wp2_with fail
  simp [bodyPost, results, Try.results12, go_sem, *]
  exact bnextA (Below.refl _ _) _

set_option maxHeartbeats 1000000 in
theorem rtparse_sum (s d : UInt32) (A : Option Addr) (c : Nat) (xs : List UInt8) (w : World) (hr : Rd bv w w.heap.size A c xs) (h20 : 20 ≤ xs.length) (hm : 5 ≤ (xs[12]).toNat / 16) (hbig : xs.length ≤ 65535) (hl : 4 * ((xs[12]).toNat / 16) ≤ xs.length) (hN : onesN (uh s d 6 xs.length ++ xs) ≠ 65535) :
    Calls Try.prog 12 #[.int .u32 (s.toNat : Int), .int .u32 (d.toNat : Int), .slice A xs.length c] w fun e w' => e = .returned (.tuple #[.agg #[.int .u16 0, .int .u16 0, .int .u32 0, .int .u32 0, .int .u8 0, .int .u8 0, .int .u16 0, .int .u16 0, .slice none 0 0, .slice none 0 0], .int .i64 5]) ∧ Below w.heap.size w w' := by
  have hlc := hr.len
  have hcc := hr.cap
  obtain ⟨b0, off, rfl, hB0, hcell⟩ := byt_at hr (k := 12) (by omega)
  have k12 := ((bnextA (Below.refl w.heap.size w) (.cells #[.int .u16 0, .int .u16 0, .int .u32 0, .int .u32 0, .int .u8 0, .int .u8 0, .int .u16 0, .int .u16 0, .slice none 0 0, .slice none 0 0] 26)).cell hB0).trans (hcell 12 (by omega))
  have hx12 := (xs[12]).toNat_lt
  have i12 : (12 : Int) < (xs.length : Int) := by omega
  have HH := fun W => Lib.hid (ruhead_any s d 6 xs.length hbig W)
  obtain ⟨N, hNe⟩ : ∃ N, onesN (uh s d 6 xs.length ++ xs) = N := ⟨_, rfl⟩
  rw [hNe] at hN
  have HN := fun (_ : Unit) => Lib.hid hNe
  have hNN : ((N : Int) == 65535) = false := by simp; omega
  generalize xs[12] = x12 at *
  clear hcell hNe hN
  go_enter Try.func12, Try.ntmps12
  go_wp2_with fail
  refine (HH _).out.mono ?_
  rintro e w1 ⟨L1, A1, c1, rfl, HL1, r1, hbel⟩
  have hR := (Blk.new w #[.int .u16 0, .int .u16 0, .int .u32 0, .int .u32 0, .int .u8 0, .int .u8 0, .int .u16 0, .int .u16 0, .slice none 0 0, .slice none 0 0] 26).next hbel
  have hB := bnext (bnextA (Below.refl w.heap.size w) _) hbel
  replace hr := (hr.nextA _).next hbel
  clear hbel HH
  go_wp2_with fail
  refine (radd_any _ _ _ _ L1 xs _ r1 hr (by rw [HL1.out, uh_len]; omega)).mono ?_
  rintro e w2 ⟨v2, rfl, hown, hbel⟩
  obtain ⟨L2, A2, c2, HL2, rfl, r2⟩ := hown.rdv
  replace hR := hR.next hbel
  replace hB := bnext hB hbel
  replace hr := hr.next hbel
  clear hbel hown r1
  go_wp2_with fail
  refine (rones_any _ _ L2 N _ _ r2 (by rw [HL2.out, HL1.out]; simp [uh_len]; omega) (by rw [HL2.out, HL1.out]; exact (HN ()).out)).mono ?_
  rintro e W ⟨rfl, rfl⟩
  clear r2 HN HL1 HL2
  obtain ⟨p0, p1, p2, p3, p4, p5, p6, p7, p8, p9, g0, g1, g2, g3, g4, g5, g6, g7, g8, g9⟩ := hR.get10
  clear hr hR
  go_wp2_with fail
  simp [bodyPost, results, Try.results12, go_sem, *]
  exact bset10 hB (Nat.le_refl _) _ _ _ _ _ _ _ _ _ _

set_option maxHeartbeats 8000000 in
set_option maxRecDepth 8000 in
theorem rtparse_ok (s d : UInt32) (A : Option Addr) (c : Nat) (xs : List UInt8) (w : World) (hr : Rd bv w w.heap.size A c xs) (h20 : 20 ≤ xs.length) (m : Nat) (hm : (xs[12]).toNat / 16 = m) (hm5 : 5 ≤ m) (hbig : xs.length ≤ 65535) (hl : 4 * m ≤ xs.length) (hN : onesN (uh s d 6 xs.length ++ xs) = 65535)
    (a b : UInt16) (q k : UInt32) (r f : UInt8) (z u : UInt16) (ha : beN ((xs.drop 0).take 2) = a.toNat) (hb : beN ((xs.drop 2).take 2) = b.toNat) (hq : beN ((xs.drop 4).take 4) = q.toNat) (hk : beN ((xs.drop 8).take 4) = k.toNat) (hr4 : (xs[12]).toNat % 16 = r.toNat) (hf : xs[13] = f) (hz : beN ((xs.drop 14).take 2) = z.toNat) (hu : beN ((xs.drop 18).take 2) = u.toNat) :
    Calls Try.prog 12 #[.int .u32 (s.toNat : Int), .int .u32 (d.toNat : Int), .slice A xs.length c] w fun e w' => ∃ Lo Ao co Lx Ax cx, e = .returned (.tuple #[.agg #[.int .u16 (a.toNat : Int), .int .u16 (b.toNat : Int), .int .u32 (q.toNat : Int), .int .u32 (k.toNat : Int), .int .u8 (r.toNat : Int), .int .u8 (f.toNat : Int), .int .u16 (z.toNat : Int), .int .u16 (u.toNat : Int), .slice Ao Lo.length co, .slice Ax Lx.length cx], .int .i64 0]) ∧ Hid (Lo = (xs.drop 20).take (4 * m - 20)) ∧ Hid (Lx = xs.drop (4 * m)) ∧ Rd bv w' w'.heap.size Ao co Lo ∧ Rd bv w' w'.heap.size Ax cx Lx ∧ Below w.heap.size w w' := by
  have hlc := hr.len
  have hcc := hr.cap
  obtain ⟨b0, off, rfl, hB0, hcell⟩ := byt_at hr (k := 12) (by omega)
  have k12 := ((bnextA (Below.refl w.heap.size w) (.cells #[.int .u16 0, .int .u16 0, .int .u32 0, .int .u32 0, .int .u8 0, .int .u8 0, .int .u16 0, .int .u16 0, .slice none 0 0, .slice none 0 0] 26)).cell hB0).trans (hcell 12 (by omega))
  have hx12 := (xs[12]).toNat_lt
  have i12 : (12 : Int) < (xs.length : Int) := by omega
  have HH := fun W => Lib.hid (ruhead_any s d 6 xs.length hbig W)
  have HN := fun (_ : Unit) => Lib.hid hN
  have i0' : (0 : Int) < (xs.length : Int) := by omega
  have i1' : (1 : Int) < (xs.length : Int) := by omega
  have i2' : (2 : Int) < (xs.length : Int) := by omega
  have i3' : (3 : Int) < (xs.length : Int) := by omega
  have i12' : (12 : Int) < (xs.length : Int) := by omega
  have i13' : (13 : Int) < (xs.length : Int) := by omega
  have i14' : (14 : Int) < (xs.length : Int) := by omega
  have i15' : (15 : Int) < (xs.length : Int) := by omega
  have i18' : (18 : Int) < (xs.length : Int) := by omega
  have i19' : (19 : Int) < (xs.length : Int) := by omega
  have HC : ∀ U, Below w.heap.size w U → U.cell? ⟨b0, off, none⟩ = some (.int .u8 (xs[0].toNat : Int)) ∧ U.cell? ⟨b0, off + 1, none⟩ = some (.int .u8 (xs[1].toNat : Int)) ∧ U.cell? ⟨b0, off + 2, none⟩ = some (.int .u8 (xs[2].toNat : Int)) ∧ U.cell? ⟨b0, off + 3, none⟩ = some (.int .u8 (xs[3].toNat : Int)) ∧ U.cell? ⟨b0, off + 12, none⟩ = some (.int .u8 (xs[12].toNat : Int)) ∧ U.cell? ⟨b0, off + 13, none⟩ = some (.int .u8 (xs[13].toNat : Int)) ∧ U.cell? ⟨b0, off + 14, none⟩ = some (.int .u8 (xs[14].toNat : Int)) ∧ U.cell? ⟨b0, off + 15, none⟩ = some (.int .u8 (xs[15].toNat : Int)) ∧ U.cell? ⟨b0, off + 18, none⟩ = some (.int .u8 (xs[18].toNat : Int)) ∧ U.cell? ⟨b0, off + 19, none⟩ = some (.int .u8 (xs[19].toNat : Int)) := by
    intro U h
    exact ⟨(h.cell hB0).trans (hcell 0 (by omega)), (h.cell hB0).trans (hcell 1 (by omega)), (h.cell hB0).trans (hcell 2 (by omega)), (h.cell hB0).trans (hcell 3 (by omega)), (h.cell hB0).trans (hcell 12 (by omega)), (h.cell hB0).trans (hcell 13 (by omega)), (h.cell hB0).trans (hcell 14 (by omega)), (h.cell hB0).trans (hcell 15 (by omega)), (h.cell hB0).trans (hcell 18 (by omega)), (h.cell hB0).trans (hcell 19 (by omega))⟩
  have ta := two_of xs 0 _ (by omega) ha
  have tb' := two_of xs 2 _ (by omega) hb
  have tz := two_of xs 14 _ (by omega) hz
  have tu := two_of xs 18 _ (by omega) hu
  have hx0 := (xs[0]).toNat_lt
  have hx1 := (xs[1]).toNat_lt
  have hx2 := (xs[2]).toNat_lt
  have hx3 := (xs[3]).toNat_lt
  have hx13 := (xs[13]).toNat_lt
  have hx14 := (xs[14]).toNat_lt
  have hx15 := (xs[15]).toNat_lt
  have hx18 := (xs[18]).toNat_lt
  have hx19 := (xs[19]).toNat_lt
  have HG4 : ∀ W (h : Rd bv W W.heap.size (some ⟨b0, off, none⟩) c xs), Hid (Calls Try.prog 30 #[.slice (some ⟨b0, off, none⟩) xs.length c, .int .i64 4, .int .i64 4] W fun e w' => e = .returned (.tuple #[.int .u32 (q.toNat : Int), .bool true]) ∧ W = w') := by
    intro W h
    have := rget4_yes (some ⟨b0, off, none⟩) c xs 4 W _ h (by omega)
    rw [hq] at this
    exact this
  have HG8 : ∀ W (h : Rd bv W W.heap.size (some ⟨b0, off, none⟩) c xs), Hid (Calls Try.prog 30 #[.slice (some ⟨b0, off, none⟩) xs.length c, .int .i64 8, .int .i64 4] W fun e w' => e = .returned (.tuple #[.int .u32 (k.toNat : Int), .bool true]) ∧ W = w') := by
    intro W h
    have := rget4_yes (some ⟨b0, off, none⟩) c xs 8 W _ h (by omega)
    rw [hk] at this
    exact this
  have hcut1 := fun W (h : Rd bv W W.heap.size (some ⟨b0, off, none⟩) c xs) => rcut_yes (some ⟨b0, off, none⟩) c xs 20 (4 * m - 20) W h (by omega) (by omega)
  have hcut2 := fun W (h : Rd bv W W.heap.size (some ⟨b0, off, none⟩) c xs) => rcut_yes (some ⟨b0, off, none⟩) c xs (4 * m) (xs.length - 4 * m) W h (by omega) (by omega)
  rw [show ((4 * m - 20 : Nat) : Int) = (m : Int) * 4 - 20 by omega] at hcut1
  rw [show ((xs.length - 4 * m : Nat) : Int) = (xs.length : Int) - (m : Int) * 4 by omega, show ((4 * m : Nat) : Int) = (m : Int) * 4 by omega, List.take_of_length_le (by simp)] at hcut2
  have HCUT1 := fun W h => Lib.hid (hcut1 W h)
  have HCUT2 := fun W h => Lib.hid (hcut2 W h)
  generalize xs[0] = x0 at *
  generalize xs[1] = x1 at *
  generalize xs[2] = x2 at *
  generalize xs[3] = x3 at *
  generalize xs[12] = x12 at *
  generalize xs[13] = x13 at *
  generalize xs[14] = x14 at *
  generalize xs[15] = x15 at *
  generalize xs[18] = x18 at *
  generalize xs[19] = x19 at *
  subst hf
  have hm' : (x12.toNat : Int) / 16 = (m : Int) := by omega
  have hr' : (x12.toNat : Int) % 16 = (r.toNat : Int) := by omega
  have HM := fun (_ : Unit) => Lib.hid (And.intro hm' hr')
  have HT := fun (_ : Unit) => Lib.hid (And.intro ta (And.intro tb' (And.intro tz tu)))
  clear hcell hN hcut1 hcut2 ha hb hq hk hr4 hz hu hm hm' hr' ta tb' tz tu i12
  have hm2 := (HM ()).out.1
  have hx16 : x12.toNat / 16 = m := by omega
  go_enter Try.func12, Try.ntmps12
  go_wp2_with fail
  refine (HH _).out.mono ?_
  rintro e w1 ⟨L1, A1, c1, rfl, HL1, r1, hbel⟩
  have hR := (Blk.new w #[.int .u16 0, .int .u16 0, .int .u32 0, .int .u32 0, .int .u8 0, .int .u8 0, .int .u16 0, .int .u16 0, .slice none 0 0, .slice none 0 0] 26).next hbel
  have hB := bnext (bnextA (Below.refl w.heap.size w) _) hbel
  replace hr := (hr.nextA _).next hbel
  clear hbel HH
  go_wp2_with fail
  refine (radd_any _ _ _ _ L1 xs _ r1 hr (by rw [HL1.out, uh_len]; omega)).mono ?_
  rintro e w2 ⟨v2, rfl, hown, hbel⟩
  obtain ⟨L2, A2, c2, HL2, rfl, r2⟩ := hown.rdv
  replace hR := hR.next hbel
  replace hB := bnext hB hbel
  replace hr := hr.next hbel
  clear hbel hown r1
  go_wp2_with fail
  refine (rones_any _ _ L2 65535 _ _ r2 (by rw [HL2.out, HL1.out]; simp [uh_len]; omega) (by rw [HL2.out, HL1.out]; exact (HN ()).out)).mono ?_
  rintro e W ⟨rfl, rfl⟩
  clear r2 HN HL1 HL2
  obtain ⟨m0, m1, m2, m3, m12, m13, m14, m15, m18, m19⟩ := HC _ hB
  have HCC : ∀ U, Below w2.heap.size w2 U → U.cell? ⟨b0, off, none⟩ = some (.int .u8 (x0.toNat : Int)) ∧ U.cell? ⟨b0, off + 1, none⟩ = some (.int .u8 (x1.toNat : Int)) ∧ U.cell? ⟨b0, off + 2, none⟩ = some (.int .u8 (x2.toNat : Int)) ∧ U.cell? ⟨b0, off + 3, none⟩ = some (.int .u8 (x3.toNat : Int)) ∧ U.cell? ⟨b0, off + 12, none⟩ = some (.int .u8 (x12.toNat : Int)) ∧ U.cell? ⟨b0, off + 13, none⟩ = some (.int .u8 (x13.toNat : Int)) ∧ U.cell? ⟨b0, off + 14, none⟩ = some (.int .u8 (x14.toNat : Int)) ∧ U.cell? ⟨b0, off + 15, none⟩ = some (.int .u8 (x15.toNat : Int)) ∧ U.cell? ⟨b0, off + 18, none⟩ = some (.int .u8 (x18.toNat : Int)) ∧ U.cell? ⟨b0, off + 19, none⟩ = some (.int .u8 (x19.toNat : Int)) := fun U h => HC U (hB.trans (h.mono hB.size))
  clear HC
  go_wp2_with fail
  have hr2 := (HM ()).out.2
  refine region_put_last (by kernel_rfl) (by kernel_rfl) (by kernel_rfl) 123 rfl (by kernel_rfl) w2 (fun i v W => match i with
      | 0 => v = .slice (some ⟨b0, off, none⟩) xs.length c
      | 1 => v = .pointer (some ⟨b0, off, none⟩)
      | 2 => v = .int .u8 (x0.toNat : Int)
      | 3 => v = .int .u16 (x0.toNat : Int)
      | 4 => v = .int .u16 ((x0.toNat : Int) * 256)
      | 5 => v = .slice (some ⟨b0, off, none⟩) xs.length c
      | 6 => v = .pointer (some ⟨b0, off + 1, none⟩)
      | 7 => v = .int .u8 (x1.toNat : Int)
      | 8 => v = .int .u16 (x1.toNat : Int)
      | 9 => v = .int .u16 (a.toNat : Int)
      | 10 => v = .slice (some ⟨b0, off, none⟩) xs.length c
      | 11 => v = .pointer (some ⟨b0, off + 2, none⟩)
      | 12 => v = .int .u8 (x2.toNat : Int)
      | 13 => v = .int .u16 (x2.toNat : Int)
      | 14 => v = .int .u16 ((x2.toNat : Int) * 256)
      | 15 => v = .slice (some ⟨b0, off, none⟩) xs.length c
      | 16 => v = .pointer (some ⟨b0, off + 3, none⟩)
      | 17 => v = .int .u8 (x3.toNat : Int)
      | 18 => v = .int .u16 (x3.toNat : Int)
      | 19 => v = .int .u16 (b.toNat : Int)
      | 20 => v = .slice (some ⟨b0, off, none⟩) xs.length c
      | 21 => v = .pointer (some ⟨b0, off + 12, none⟩)
      | 22 => v = .int .u8 (x12.toNat : Int)
      | 23 => v = .int .u8 (r.toNat : Int)
      | 24 => v = .slice (some ⟨b0, off, none⟩) xs.length c
      | 25 => v = .pointer (some ⟨b0, off + 13, none⟩)
      | 26 => v = .int .u8 (x13.toNat : Int)
      | 27 => v = .slice (some ⟨b0, off, none⟩) xs.length c
      | 28 => v = .pointer (some ⟨b0, off + 14, none⟩)
      | 29 => v = .int .u8 (x14.toNat : Int)
      | 30 => v = .int .u16 (x14.toNat : Int)
      | 31 => v = .int .u16 ((x14.toNat : Int) * 256)
      | 32 => v = .slice (some ⟨b0, off, none⟩) xs.length c
      | 33 => v = .pointer (some ⟨b0, off + 15, none⟩)
      | 34 => v = .int .u8 (x15.toNat : Int)
      | 35 => v = .int .u16 (x15.toNat : Int)
      | 36 => v = .int .u16 (z.toNat : Int)
      | 37 => v = .slice (some ⟨b0, off, none⟩) xs.length c
      | 38 => v = .pointer (some ⟨b0, off + 18, none⟩)
      | 39 => v = .int .u8 (x18.toNat : Int)
      | 40 => v = .int .u16 (x18.toNat : Int)
      | 41 => v = .int .u16 ((x18.toNat : Int) * 256)
      | 42 => v = .slice (some ⟨b0, off, none⟩) xs.length c
      | 43 => v = .pointer (some ⟨b0, off + 19, none⟩)
      | 44 => v = .int .u8 (x19.toNat : Int)
      | 45 => v = .int .u16 (x19.toNat : Int)
      | 46 => v = .int .u16 (u.toNat : Int)
      | 47 => v = .agg #[.int .u16 (a.toNat : Int), .int .u16 (b.toNat : Int), .int .u32 0, .int .u32 0, .int .u8 (r.toNat : Int), .int .u8 (x13.toNat : Int), .int .u16 (z.toNat : Int), .int .u16 (u.toNat : Int), .slice none 0 0, .slice none 0 0]
      | 48 => ∃ g, v = .pointer (some ⟨g, 0, none⟩) ∧ w2.heap.size ≤ g ∧ Blk W g [.int .u16 0, .int .u16 0, .int .u32 0, .int .u32 0, .int .u8 0, .int .u8 0, .int .u16 0, .int .u16 0, .slice none 0 0, .slice none 0 0] 26
      | _ => True) (Below.refl _ _) 49 rfl (by kernel_rfl) (by intro o h; obtain rfl := Option.some.inj h; rfl) ?_ ?_ ?_
  · intro i v W W' h hb
    match i, h with
    | 0, h => exact h
    | 1, h => exact h
    | 2, h => exact h
    | 3, h => exact h
    | 4, h => exact h
    | 5, h => exact h
    | 6, h => exact h
    | 7, h => exact h
    | 8, h => exact h
    | 9, h => exact h
    | 10, h => exact h
    | 11, h => exact h
    | 12, h => exact h
    | 13, h => exact h
    | 14, h => exact h
    | 15, h => exact h
    | 16, h => exact h
    | 17, h => exact h
    | 18, h => exact h
    | 19, h => exact h
    | 20, h => exact h
    | 21, h => exact h
    | 22, h => exact h
    | 23, h => exact h
    | 24, h => exact h
    | 25, h => exact h
    | 26, h => exact h
    | 27, h => exact h
    | 28, h => exact h
    | 29, h => exact h
    | 30, h => exact h
    | 31, h => exact h
    | 32, h => exact h
    | 33, h => exact h
    | 34, h => exact h
    | 35, h => exact h
    | 36, h => exact h
    | 37, h => exact h
    | 38, h => exact h
    | 39, h => exact h
    | 40, h => exact h
    | 41, h => exact h
    | 42, h => exact h
    | 43, h => exact h
    | 44, h => exact h
    | 45, h => exact h
    | 46, h => exact h
    | 47, h => exact h
    | 48, h => obtain ⟨g, h1, h2, h3⟩ := h; exact ⟨g, h1, h2, h3.next hb⟩
    | _ + 49, _ => trivial
  · intro i oo uu W him hoo hVW hd
    rcases i with _|_|_|_|_|_|_|_|_|_|_|_|_|_|_|_|_|_|_|_|_|_|_|_|_|_|_|_|_|_|_|_|_|_|_|_|_|_|_|_|_|_|_|_|_|_|_|_|_|i
    · obtain rfl := Option.some.inj hoo
      refine .inl ⟨wanted_none rfl, ?_⟩
      generalize hev : Act.eval _ = ev
      have ec : ∀ c, ev (.const c) = c := fun c => by rw [← hev]; rfl
      have e2 : ev (.tmp 2) = .slice (some ⟨b0, off, none⟩) xs.length c := by rw [← hev]; exact eval_old (by kernel_rfl) 123 rfl (by decide) rfl
      clear hev hd
      exact .inl ⟨_, W, by go_simp, rfl, Below.refl _ _⟩
    · obtain rfl := Option.some.inj hoo
      have q0 : uu 0 = .slice (some ⟨b0, off, none⟩) xs.length c := hd 0 (by kernel_rfl)
      refine .inl ⟨wanted_none rfl, ?_⟩
      generalize hev : Act.eval _ = ev
      have ec : ∀ c, ev (.const c) = c := fun c => by rw [← hev]; rfl
      have e43 : ev (.tmp 43) = .slice (some ⟨b0, off, none⟩) xs.length c := by rw [← hev]; exact (eval_put (by kernel_rfl) 123 rfl (by decide)).trans q0
      clear hev hd q0
      have hne : ¬ (xs = []) := by intro h; rw [h] at h20; simp at h20
      exact .inl ⟨_, W, by go_simp, rfl, Below.refl _ _⟩
    · obtain rfl := Option.some.inj hoo
      have q1 : uu 1 = .pointer (some ⟨b0, off, none⟩) := hd 1 (by kernel_rfl)
      refine .inl ⟨wanted_none rfl, ?_⟩
      generalize hev : Act.eval _ = ev
      have ec : ∀ c, ev (.const c) = c := fun c => by rw [← hev]; rfl
      have e44 : ev (.tmp 44) = .pointer (some ⟨b0, off, none⟩) := by rw [← hev]; exact (eval_put (by kernel_rfl) 123 rfl (by decide)).trans q1
      clear hev hd q1
      obtain ⟨cc0, cc1, cc2, cc3, cc4, cc5, cc6, cc7, cc8, cc9⟩ := HCC W hVW
      exact .inl ⟨_, W, by go_simp, rfl, Below.refl _ _⟩
    · obtain rfl := Option.some.inj hoo
      have q2 : uu 2 = .int .u8 (x0.toNat : Int) := hd 2 (by kernel_rfl)
      refine .inl ⟨wanted_none rfl, ?_⟩
      generalize hev : Act.eval _ = ev
      have ec : ∀ c, ev (.const c) = c := fun c => by rw [← hev]; rfl
      have e45 : ev (.tmp 45) = .int .u8 (x0.toNat : Int) := by rw [← hev]; exact (eval_put (by kernel_rfl) 123 rfl (by decide)).trans q2
      clear hev hd q2
      have hw : IntKind.u16.wrap (x0.toNat : Int) = (x0.toNat : Int) := by rw [IntKind.wrap_u16]; omega
      exact .inl ⟨_, W, by go_simp, rfl, Below.refl _ _⟩
    · obtain rfl := Option.some.inj hoo
      have q3 : uu 3 = .int .u16 (x0.toNat : Int) := hd 3 (by kernel_rfl)
      refine .inl ⟨wanted_none rfl, ?_⟩
      generalize hev : Act.eval _ = ev
      have ec : ∀ c, ev (.const c) = c := fun c => by rw [← hev]; rfl
      have e46 : ev (.tmp 46) = .int .u16 (x0.toNat : Int) := by rw [← hev]; exact (eval_put (by kernel_rfl) 123 rfl (by decide)).trans q3
      clear hev hd q3
      have hw : IntKind.u16.wrap ((x0.toNat : Int) * 256) = (x0.toNat : Int) * 256 := by rw [IntKind.wrap_u16]; omega
      exact .inl ⟨_, W, by go_simp, rfl, Below.refl _ _⟩
    · obtain rfl := Option.some.inj hoo
      refine .inl ⟨wanted_none rfl, ?_⟩
      generalize hev : Act.eval _ = ev
      have ec : ∀ c, ev (.const c) = c := fun c => by rw [← hev]; rfl
      have e2 : ev (.tmp 2) = .slice (some ⟨b0, off, none⟩) xs.length c := by rw [← hev]; exact eval_old (by kernel_rfl) 123 rfl (by decide) rfl
      clear hev hd
      exact .inl ⟨_, W, by go_simp, rfl, Below.refl _ _⟩
    · obtain rfl := Option.some.inj hoo
      have q5 : uu 5 = .slice (some ⟨b0, off, none⟩) xs.length c := hd 5 (by kernel_rfl)
      refine .inl ⟨wanted_none rfl, ?_⟩
      generalize hev : Act.eval _ = ev
      have ec : ∀ c, ev (.const c) = c := fun c => by rw [← hev]; rfl
      have e48 : ev (.tmp 48) = .slice (some ⟨b0, off, none⟩) xs.length c := by rw [← hev]; exact (eval_put (by kernel_rfl) 123 rfl (by decide)).trans q5
      clear hev hd q5
      exact .inl ⟨_, W, by go_simp, rfl, Below.refl _ _⟩
    · obtain rfl := Option.some.inj hoo
      have q6 : uu 6 = .pointer (some ⟨b0, off + 1, none⟩) := hd 6 (by kernel_rfl)
      refine .inl ⟨wanted_none rfl, ?_⟩
      generalize hev : Act.eval _ = ev
      have ec : ∀ c, ev (.const c) = c := fun c => by rw [← hev]; rfl
      have e49 : ev (.tmp 49) = .pointer (some ⟨b0, off + 1, none⟩) := by rw [← hev]; exact (eval_put (by kernel_rfl) 123 rfl (by decide)).trans q6
      clear hev hd q6
      obtain ⟨cc0, cc1, cc2, cc3, cc4, cc5, cc6, cc7, cc8, cc9⟩ := HCC W hVW
      exact .inl ⟨_, W, by go_simp, rfl, Below.refl _ _⟩
    · obtain rfl := Option.some.inj hoo
      have q7 : uu 7 = .int .u8 (x1.toNat : Int) := hd 7 (by kernel_rfl)
      refine .inl ⟨wanted_none rfl, ?_⟩
      generalize hev : Act.eval _ = ev
      have ec : ∀ c, ev (.const c) = c := fun c => by rw [← hev]; rfl
      have e50 : ev (.tmp 50) = .int .u8 (x1.toNat : Int) := by rw [← hev]; exact (eval_put (by kernel_rfl) 123 rfl (by decide)).trans q7
      clear hev hd q7
      have hw : IntKind.u16.wrap (x1.toNat : Int) = (x1.toNat : Int) := by rw [IntKind.wrap_u16]; omega
      exact .inl ⟨_, W, by go_simp, rfl, Below.refl _ _⟩
    · obtain rfl := Option.some.inj hoo
      have q4 : uu 4 = .int .u16 ((x0.toNat : Int) * 256) := hd 4 (by kernel_rfl)
      have q8 : uu 8 = .int .u16 (x1.toNat : Int) := hd 8 (by kernel_rfl)
      refine .inl ⟨wanted_none rfl, ?_⟩
      generalize hev : Act.eval _ = ev
      have ec : ∀ c, ev (.const c) = c := fun c => by rw [← hev]; rfl
      have e47 : ev (.tmp 47) = .int .u16 ((x0.toNat : Int) * 256) := by rw [← hev]; exact (eval_put (by kernel_rfl) 123 rfl (by decide)).trans q4
      have e51 : ev (.tmp 51) = .int .u16 (x1.toNat : Int) := by rw [← hev]; exact (eval_put (by kernel_rfl) 123 rfl (by decide)).trans q8
      clear hev hd q4 q8
      have hh0 := (HT ()).out.1
      have hlt16 := a.toNat_lt
      have hw : IntKind.u16.wrap (a.toNat : Int) = (a.toNat : Int) := by rw [IntKind.wrap_u16]; omega
      exact .inl ⟨_, W, by go_simp, rfl, Below.refl _ _⟩
    · obtain rfl := Option.some.inj hoo
      refine .inl ⟨wanted_none rfl, ?_⟩
      generalize hev : Act.eval _ = ev
      have ec : ∀ c, ev (.const c) = c := fun c => by rw [← hev]; rfl
      have e2 : ev (.tmp 2) = .slice (some ⟨b0, off, none⟩) xs.length c := by rw [← hev]; exact eval_old (by kernel_rfl) 123 rfl (by decide) rfl
      clear hev hd
      exact .inl ⟨_, W, by go_simp, rfl, Below.refl _ _⟩
    · obtain rfl := Option.some.inj hoo
      have q10 : uu 10 = .slice (some ⟨b0, off, none⟩) xs.length c := hd 10 (by kernel_rfl)
      refine .inl ⟨wanted_none rfl, ?_⟩
      generalize hev : Act.eval _ = ev
      have ec : ∀ c, ev (.const c) = c := fun c => by rw [← hev]; rfl
      have e53 : ev (.tmp 53) = .slice (some ⟨b0, off, none⟩) xs.length c := by rw [← hev]; exact (eval_put (by kernel_rfl) 123 rfl (by decide)).trans q10
      clear hev hd q10
      exact .inl ⟨_, W, by go_simp, rfl, Below.refl _ _⟩
    · obtain rfl := Option.some.inj hoo
      have q11 : uu 11 = .pointer (some ⟨b0, off + 2, none⟩) := hd 11 (by kernel_rfl)
      refine .inl ⟨wanted_none rfl, ?_⟩
      generalize hev : Act.eval _ = ev
      have ec : ∀ c, ev (.const c) = c := fun c => by rw [← hev]; rfl
      have e54 : ev (.tmp 54) = .pointer (some ⟨b0, off + 2, none⟩) := by rw [← hev]; exact (eval_put (by kernel_rfl) 123 rfl (by decide)).trans q11
      clear hev hd q11
      obtain ⟨cc0, cc1, cc2, cc3, cc4, cc5, cc6, cc7, cc8, cc9⟩ := HCC W hVW
      exact .inl ⟨_, W, by go_simp, rfl, Below.refl _ _⟩
    · obtain rfl := Option.some.inj hoo
      have q12 : uu 12 = .int .u8 (x2.toNat : Int) := hd 12 (by kernel_rfl)
      refine .inl ⟨wanted_none rfl, ?_⟩
      generalize hev : Act.eval _ = ev
      have ec : ∀ c, ev (.const c) = c := fun c => by rw [← hev]; rfl
      have e55 : ev (.tmp 55) = .int .u8 (x2.toNat : Int) := by rw [← hev]; exact (eval_put (by kernel_rfl) 123 rfl (by decide)).trans q12
      clear hev hd q12
      have hw : IntKind.u16.wrap (x2.toNat : Int) = (x2.toNat : Int) := by rw [IntKind.wrap_u16]; omega
      exact .inl ⟨_, W, by go_simp, rfl, Below.refl _ _⟩
    · obtain rfl := Option.some.inj hoo
      have q13 : uu 13 = .int .u16 (x2.toNat : Int) := hd 13 (by kernel_rfl)
      refine .inl ⟨wanted_none rfl, ?_⟩
      generalize hev : Act.eval _ = ev
      have ec : ∀ c, ev (.const c) = c := fun c => by rw [← hev]; rfl
      have e56 : ev (.tmp 56) = .int .u16 (x2.toNat : Int) := by rw [← hev]; exact (eval_put (by kernel_rfl) 123 rfl (by decide)).trans q13
      clear hev hd q13
      have hw : IntKind.u16.wrap ((x2.toNat : Int) * 256) = (x2.toNat : Int) * 256 := by rw [IntKind.wrap_u16]; omega
      exact .inl ⟨_, W, by go_simp, rfl, Below.refl _ _⟩
    · obtain rfl := Option.some.inj hoo
      refine .inl ⟨wanted_none rfl, ?_⟩
      generalize hev : Act.eval _ = ev
      have ec : ∀ c, ev (.const c) = c := fun c => by rw [← hev]; rfl
      have e2 : ev (.tmp 2) = .slice (some ⟨b0, off, none⟩) xs.length c := by rw [← hev]; exact eval_old (by kernel_rfl) 123 rfl (by decide) rfl
      clear hev hd
      exact .inl ⟨_, W, by go_simp, rfl, Below.refl _ _⟩
    · obtain rfl := Option.some.inj hoo
      have q15 : uu 15 = .slice (some ⟨b0, off, none⟩) xs.length c := hd 15 (by kernel_rfl)
      refine .inl ⟨wanted_none rfl, ?_⟩
      generalize hev : Act.eval _ = ev
      have ec : ∀ c, ev (.const c) = c := fun c => by rw [← hev]; rfl
      have e58 : ev (.tmp 58) = .slice (some ⟨b0, off, none⟩) xs.length c := by rw [← hev]; exact (eval_put (by kernel_rfl) 123 rfl (by decide)).trans q15
      clear hev hd q15
      exact .inl ⟨_, W, by go_simp, rfl, Below.refl _ _⟩
    · obtain rfl := Option.some.inj hoo
      have q16 : uu 16 = .pointer (some ⟨b0, off + 3, none⟩) := hd 16 (by kernel_rfl)
      refine .inl ⟨wanted_none rfl, ?_⟩
      generalize hev : Act.eval _ = ev
      have ec : ∀ c, ev (.const c) = c := fun c => by rw [← hev]; rfl
      have e59 : ev (.tmp 59) = .pointer (some ⟨b0, off + 3, none⟩) := by rw [← hev]; exact (eval_put (by kernel_rfl) 123 rfl (by decide)).trans q16
      clear hev hd q16
      obtain ⟨cc0, cc1, cc2, cc3, cc4, cc5, cc6, cc7, cc8, cc9⟩ := HCC W hVW
      exact .inl ⟨_, W, by go_simp, rfl, Below.refl _ _⟩
    · obtain rfl := Option.some.inj hoo
      have q17 : uu 17 = .int .u8 (x3.toNat : Int) := hd 17 (by kernel_rfl)
      refine .inl ⟨wanted_none rfl, ?_⟩
      generalize hev : Act.eval _ = ev
      have ec : ∀ c, ev (.const c) = c := fun c => by rw [← hev]; rfl
      have e60 : ev (.tmp 60) = .int .u8 (x3.toNat : Int) := by rw [← hev]; exact (eval_put (by kernel_rfl) 123 rfl (by decide)).trans q17
      clear hev hd q17
      have hw : IntKind.u16.wrap (x3.toNat : Int) = (x3.toNat : Int) := by rw [IntKind.wrap_u16]; omega
      exact .inl ⟨_, W, by go_simp, rfl, Below.refl _ _⟩
    · obtain rfl := Option.some.inj hoo
      have q14 : uu 14 = .int .u16 ((x2.toNat : Int) * 256) := hd 14 (by kernel_rfl)
      have q18 : uu 18 = .int .u16 (x3.toNat : Int) := hd 18 (by kernel_rfl)
      refine .inl ⟨wanted_none rfl, ?_⟩
      generalize hev : Act.eval _ = ev
      have ec : ∀ c, ev (.const c) = c := fun c => by rw [← hev]; rfl
      have e57 : ev (.tmp 57) = .int .u16 ((x2.toNat : Int) * 256) := by rw [← hev]; exact (eval_put (by kernel_rfl) 123 rfl (by decide)).trans q14
      have e61 : ev (.tmp 61) = .int .u16 (x3.toNat : Int) := by rw [← hev]; exact (eval_put (by kernel_rfl) 123 rfl (by decide)).trans q18
      clear hev hd q14 q18
      have hh2 := (HT ()).out.2.1
      have hlt16 := b.toNat_lt
      have hw : IntKind.u16.wrap (b.toNat : Int) = (b.toNat : Int) := by rw [IntKind.wrap_u16]; omega
      exact .inl ⟨_, W, by go_simp, rfl, Below.refl _ _⟩
    · obtain rfl := Option.some.inj hoo
      refine .inl ⟨wanted_none rfl, ?_⟩
      generalize hev : Act.eval _ = ev
      have ec : ∀ c, ev (.const c) = c := fun c => by rw [← hev]; rfl
      have e2 : ev (.tmp 2) = .slice (some ⟨b0, off, none⟩) xs.length c := by rw [← hev]; exact eval_old (by kernel_rfl) 123 rfl (by decide) rfl
      clear hev hd
      exact .inl ⟨_, W, by go_simp, rfl, Below.refl _ _⟩
    · obtain rfl := Option.some.inj hoo
      have q20 : uu 20 = .slice (some ⟨b0, off, none⟩) xs.length c := hd 20 (by kernel_rfl)
      refine .inl ⟨wanted_none rfl, ?_⟩
      generalize hev : Act.eval _ = ev
      have ec : ∀ c, ev (.const c) = c := fun c => by rw [← hev]; rfl
      have e63 : ev (.tmp 63) = .slice (some ⟨b0, off, none⟩) xs.length c := by rw [← hev]; exact (eval_put (by kernel_rfl) 123 rfl (by decide)).trans q20
      clear hev hd q20
      exact .inl ⟨_, W, by go_simp, rfl, Below.refl _ _⟩
    · obtain rfl := Option.some.inj hoo
      have q21 : uu 21 = .pointer (some ⟨b0, off + 12, none⟩) := hd 21 (by kernel_rfl)
      refine .inl ⟨wanted_none rfl, ?_⟩
      generalize hev : Act.eval _ = ev
      have ec : ∀ c, ev (.const c) = c := fun c => by rw [← hev]; rfl
      have e64 : ev (.tmp 64) = .pointer (some ⟨b0, off + 12, none⟩) := by rw [← hev]; exact (eval_put (by kernel_rfl) 123 rfl (by decide)).trans q21
      clear hev hd q21
      obtain ⟨cc0, cc1, cc2, cc3, cc4, cc5, cc6, cc7, cc8, cc9⟩ := HCC W hVW
      exact .inl ⟨_, W, by go_simp, rfl, Below.refl _ _⟩
    · obtain rfl := Option.some.inj hoo
      have q22 : uu 22 = .int .u8 (x12.toNat : Int) := hd 22 (by kernel_rfl)
      refine .inl ⟨wanted_none rfl, ?_⟩
      generalize hev : Act.eval _ = ev
      have ec : ∀ c, ev (.const c) = c := fun c => by rw [← hev]; rfl
      have e65 : ev (.tmp 65) = .int .u8 (x12.toNat : Int) := by rw [← hev]; exact (eval_put (by kernel_rfl) 123 rfl (by decide)).trans q22
      clear hev hd q22
      have hr2 := (HM ()).out.2
      have htm : (x12.toNat : Int).tmod 16 = (r.toNat : Int) := by rw [Int.tmod_eq_emod_of_nonneg (by omega)]; exact hr2
      exact .inl ⟨_, W, by go_simp, rfl, Below.refl _ _⟩
    · obtain rfl := Option.some.inj hoo
      refine .inl ⟨wanted_none rfl, ?_⟩
      generalize hev : Act.eval _ = ev
      have ec : ∀ c, ev (.const c) = c := fun c => by rw [← hev]; rfl
      have e2 : ev (.tmp 2) = .slice (some ⟨b0, off, none⟩) xs.length c := by rw [← hev]; exact eval_old (by kernel_rfl) 123 rfl (by decide) rfl
      clear hev hd
      exact .inl ⟨_, W, by go_simp, rfl, Below.refl _ _⟩
    · obtain rfl := Option.some.inj hoo
      have q24 : uu 24 = .slice (some ⟨b0, off, none⟩) xs.length c := hd 24 (by kernel_rfl)
      refine .inl ⟨wanted_none rfl, ?_⟩
      generalize hev : Act.eval _ = ev
      have ec : ∀ c, ev (.const c) = c := fun c => by rw [← hev]; rfl
      have e67 : ev (.tmp 67) = .slice (some ⟨b0, off, none⟩) xs.length c := by rw [← hev]; exact (eval_put (by kernel_rfl) 123 rfl (by decide)).trans q24
      clear hev hd q24
      exact .inl ⟨_, W, by go_simp, rfl, Below.refl _ _⟩
    · obtain rfl := Option.some.inj hoo
      have q25 : uu 25 = .pointer (some ⟨b0, off + 13, none⟩) := hd 25 (by kernel_rfl)
      refine .inl ⟨wanted_none rfl, ?_⟩
      generalize hev : Act.eval _ = ev
      have ec : ∀ c, ev (.const c) = c := fun c => by rw [← hev]; rfl
      have e68 : ev (.tmp 68) = .pointer (some ⟨b0, off + 13, none⟩) := by rw [← hev]; exact (eval_put (by kernel_rfl) 123 rfl (by decide)).trans q25
      clear hev hd q25
      obtain ⟨cc0, cc1, cc2, cc3, cc4, cc5, cc6, cc7, cc8, cc9⟩ := HCC W hVW
      exact .inl ⟨_, W, by go_simp, rfl, Below.refl _ _⟩
    · obtain rfl := Option.some.inj hoo
      refine .inl ⟨wanted_none rfl, ?_⟩
      generalize hev : Act.eval _ = ev
      have ec : ∀ c, ev (.const c) = c := fun c => by rw [← hev]; rfl
      have e2 : ev (.tmp 2) = .slice (some ⟨b0, off, none⟩) xs.length c := by rw [← hev]; exact eval_old (by kernel_rfl) 123 rfl (by decide) rfl
      clear hev hd
      exact .inl ⟨_, W, by go_simp, rfl, Below.refl _ _⟩
    · obtain rfl := Option.some.inj hoo
      have q27 : uu 27 = .slice (some ⟨b0, off, none⟩) xs.length c := hd 27 (by kernel_rfl)
      refine .inl ⟨wanted_none rfl, ?_⟩
      generalize hev : Act.eval _ = ev
      have ec : ∀ c, ev (.const c) = c := fun c => by rw [← hev]; rfl
      have e70 : ev (.tmp 70) = .slice (some ⟨b0, off, none⟩) xs.length c := by rw [← hev]; exact (eval_put (by kernel_rfl) 123 rfl (by decide)).trans q27
      clear hev hd q27
      exact .inl ⟨_, W, by go_simp, rfl, Below.refl _ _⟩
    · obtain rfl := Option.some.inj hoo
      have q28 : uu 28 = .pointer (some ⟨b0, off + 14, none⟩) := hd 28 (by kernel_rfl)
      refine .inl ⟨wanted_none rfl, ?_⟩
      generalize hev : Act.eval _ = ev
      have ec : ∀ c, ev (.const c) = c := fun c => by rw [← hev]; rfl
      have e71 : ev (.tmp 71) = .pointer (some ⟨b0, off + 14, none⟩) := by rw [← hev]; exact (eval_put (by kernel_rfl) 123 rfl (by decide)).trans q28
      clear hev hd q28
      obtain ⟨cc0, cc1, cc2, cc3, cc4, cc5, cc6, cc7, cc8, cc9⟩ := HCC W hVW
      exact .inl ⟨_, W, by go_simp, rfl, Below.refl _ _⟩
    · obtain rfl := Option.some.inj hoo
      have q29 : uu 29 = .int .u8 (x14.toNat : Int) := hd 29 (by kernel_rfl)
      refine .inl ⟨wanted_none rfl, ?_⟩
      generalize hev : Act.eval _ = ev
      have ec : ∀ c, ev (.const c) = c := fun c => by rw [← hev]; rfl
      have e72 : ev (.tmp 72) = .int .u8 (x14.toNat : Int) := by rw [← hev]; exact (eval_put (by kernel_rfl) 123 rfl (by decide)).trans q29
      clear hev hd q29
      have hw : IntKind.u16.wrap (x14.toNat : Int) = (x14.toNat : Int) := by rw [IntKind.wrap_u16]; omega
      exact .inl ⟨_, W, by go_simp, rfl, Below.refl _ _⟩
    · obtain rfl := Option.some.inj hoo
      have q30 : uu 30 = .int .u16 (x14.toNat : Int) := hd 30 (by kernel_rfl)
      refine .inl ⟨wanted_none rfl, ?_⟩
      generalize hev : Act.eval _ = ev
      have ec : ∀ c, ev (.const c) = c := fun c => by rw [← hev]; rfl
      have e73 : ev (.tmp 73) = .int .u16 (x14.toNat : Int) := by rw [← hev]; exact (eval_put (by kernel_rfl) 123 rfl (by decide)).trans q30
      clear hev hd q30
      have hw : IntKind.u16.wrap ((x14.toNat : Int) * 256) = (x14.toNat : Int) * 256 := by rw [IntKind.wrap_u16]; omega
      exact .inl ⟨_, W, by go_simp, rfl, Below.refl _ _⟩
    · obtain rfl := Option.some.inj hoo
      refine .inl ⟨wanted_none rfl, ?_⟩
      generalize hev : Act.eval _ = ev
      have ec : ∀ c, ev (.const c) = c := fun c => by rw [← hev]; rfl
      have e2 : ev (.tmp 2) = .slice (some ⟨b0, off, none⟩) xs.length c := by rw [← hev]; exact eval_old (by kernel_rfl) 123 rfl (by decide) rfl
      clear hev hd
      exact .inl ⟨_, W, by go_simp, rfl, Below.refl _ _⟩
    · obtain rfl := Option.some.inj hoo
      have q32 : uu 32 = .slice (some ⟨b0, off, none⟩) xs.length c := hd 32 (by kernel_rfl)
      refine .inl ⟨wanted_none rfl, ?_⟩
      generalize hev : Act.eval _ = ev
      have ec : ∀ c, ev (.const c) = c := fun c => by rw [← hev]; rfl
      have e75 : ev (.tmp 75) = .slice (some ⟨b0, off, none⟩) xs.length c := by rw [← hev]; exact (eval_put (by kernel_rfl) 123 rfl (by decide)).trans q32
      clear hev hd q32
      exact .inl ⟨_, W, by go_simp, rfl, Below.refl _ _⟩
    · obtain rfl := Option.some.inj hoo
      have q33 : uu 33 = .pointer (some ⟨b0, off + 15, none⟩) := hd 33 (by kernel_rfl)
      refine .inl ⟨wanted_none rfl, ?_⟩
      generalize hev : Act.eval _ = ev
      have ec : ∀ c, ev (.const c) = c := fun c => by rw [← hev]; rfl
      have e76 : ev (.tmp 76) = .pointer (some ⟨b0, off + 15, none⟩) := by rw [← hev]; exact (eval_put (by kernel_rfl) 123 rfl (by decide)).trans q33
      clear hev hd q33
      obtain ⟨cc0, cc1, cc2, cc3, cc4, cc5, cc6, cc7, cc8, cc9⟩ := HCC W hVW
      exact .inl ⟨_, W, by go_simp, rfl, Below.refl _ _⟩
    · obtain rfl := Option.some.inj hoo
      have q34 : uu 34 = .int .u8 (x15.toNat : Int) := hd 34 (by kernel_rfl)
      refine .inl ⟨wanted_none rfl, ?_⟩
      generalize hev : Act.eval _ = ev
      have ec : ∀ c, ev (.const c) = c := fun c => by rw [← hev]; rfl
      have e77 : ev (.tmp 77) = .int .u8 (x15.toNat : Int) := by rw [← hev]; exact (eval_put (by kernel_rfl) 123 rfl (by decide)).trans q34
      clear hev hd q34
      have hw : IntKind.u16.wrap (x15.toNat : Int) = (x15.toNat : Int) := by rw [IntKind.wrap_u16]; omega
      exact .inl ⟨_, W, by go_simp, rfl, Below.refl _ _⟩
    · obtain rfl := Option.some.inj hoo
      have q31 : uu 31 = .int .u16 ((x14.toNat : Int) * 256) := hd 31 (by kernel_rfl)
      have q35 : uu 35 = .int .u16 (x15.toNat : Int) := hd 35 (by kernel_rfl)
      refine .inl ⟨wanted_none rfl, ?_⟩
      generalize hev : Act.eval _ = ev
      have ec : ∀ c, ev (.const c) = c := fun c => by rw [← hev]; rfl
      have e74 : ev (.tmp 74) = .int .u16 ((x14.toNat : Int) * 256) := by rw [← hev]; exact (eval_put (by kernel_rfl) 123 rfl (by decide)).trans q31
      have e78 : ev (.tmp 78) = .int .u16 (x15.toNat : Int) := by rw [← hev]; exact (eval_put (by kernel_rfl) 123 rfl (by decide)).trans q35
      clear hev hd q31 q35
      have hh14 := (HT ()).out.2.2.1
      have hlt16 := z.toNat_lt
      have hw : IntKind.u16.wrap (z.toNat : Int) = (z.toNat : Int) := by rw [IntKind.wrap_u16]; omega
      exact .inl ⟨_, W, by go_simp, rfl, Below.refl _ _⟩
    · obtain rfl := Option.some.inj hoo
      refine .inl ⟨wanted_none rfl, ?_⟩
      generalize hev : Act.eval _ = ev
      have ec : ∀ c, ev (.const c) = c := fun c => by rw [← hev]; rfl
      have e2 : ev (.tmp 2) = .slice (some ⟨b0, off, none⟩) xs.length c := by rw [← hev]; exact eval_old (by kernel_rfl) 123 rfl (by decide) rfl
      clear hev hd
      exact .inl ⟨_, W, by go_simp, rfl, Below.refl _ _⟩
    · obtain rfl := Option.some.inj hoo
      have q37 : uu 37 = .slice (some ⟨b0, off, none⟩) xs.length c := hd 37 (by kernel_rfl)
      refine .inl ⟨wanted_none rfl, ?_⟩
      generalize hev : Act.eval _ = ev
      have ec : ∀ c, ev (.const c) = c := fun c => by rw [← hev]; rfl
      have e80 : ev (.tmp 80) = .slice (some ⟨b0, off, none⟩) xs.length c := by rw [← hev]; exact (eval_put (by kernel_rfl) 123 rfl (by decide)).trans q37
      clear hev hd q37
      exact .inl ⟨_, W, by go_simp, rfl, Below.refl _ _⟩
    · obtain rfl := Option.some.inj hoo
      have q38 : uu 38 = .pointer (some ⟨b0, off + 18, none⟩) := hd 38 (by kernel_rfl)
      refine .inl ⟨wanted_none rfl, ?_⟩
      generalize hev : Act.eval _ = ev
      have ec : ∀ c, ev (.const c) = c := fun c => by rw [← hev]; rfl
      have e81 : ev (.tmp 81) = .pointer (some ⟨b0, off + 18, none⟩) := by rw [← hev]; exact (eval_put (by kernel_rfl) 123 rfl (by decide)).trans q38
      clear hev hd q38
      obtain ⟨cc0, cc1, cc2, cc3, cc4, cc5, cc6, cc7, cc8, cc9⟩ := HCC W hVW
      exact .inl ⟨_, W, by go_simp, rfl, Below.refl _ _⟩
    · obtain rfl := Option.some.inj hoo
      have q39 : uu 39 = .int .u8 (x18.toNat : Int) := hd 39 (by kernel_rfl)
      refine .inl ⟨wanted_none rfl, ?_⟩
      generalize hev : Act.eval _ = ev
      have ec : ∀ c, ev (.const c) = c := fun c => by rw [← hev]; rfl
      have e82 : ev (.tmp 82) = .int .u8 (x18.toNat : Int) := by rw [← hev]; exact (eval_put (by kernel_rfl) 123 rfl (by decide)).trans q39
      clear hev hd q39
      have hw : IntKind.u16.wrap (x18.toNat : Int) = (x18.toNat : Int) := by rw [IntKind.wrap_u16]; omega
      exact .inl ⟨_, W, by go_simp, rfl, Below.refl _ _⟩
    · obtain rfl := Option.some.inj hoo
      have q40 : uu 40 = .int .u16 (x18.toNat : Int) := hd 40 (by kernel_rfl)
      refine .inl ⟨wanted_none rfl, ?_⟩
      generalize hev : Act.eval _ = ev
      have ec : ∀ c, ev (.const c) = c := fun c => by rw [← hev]; rfl
      have e83 : ev (.tmp 83) = .int .u16 (x18.toNat : Int) := by rw [← hev]; exact (eval_put (by kernel_rfl) 123 rfl (by decide)).trans q40
      clear hev hd q40
      have hw : IntKind.u16.wrap ((x18.toNat : Int) * 256) = (x18.toNat : Int) * 256 := by rw [IntKind.wrap_u16]; omega
      exact .inl ⟨_, W, by go_simp, rfl, Below.refl _ _⟩
    · obtain rfl := Option.some.inj hoo
      refine .inl ⟨wanted_none rfl, ?_⟩
      generalize hev : Act.eval _ = ev
      have ec : ∀ c, ev (.const c) = c := fun c => by rw [← hev]; rfl
      have e2 : ev (.tmp 2) = .slice (some ⟨b0, off, none⟩) xs.length c := by rw [← hev]; exact eval_old (by kernel_rfl) 123 rfl (by decide) rfl
      clear hev hd
      exact .inl ⟨_, W, by go_simp, rfl, Below.refl _ _⟩
    · obtain rfl := Option.some.inj hoo
      have q42 : uu 42 = .slice (some ⟨b0, off, none⟩) xs.length c := hd 42 (by kernel_rfl)
      refine .inl ⟨wanted_none rfl, ?_⟩
      generalize hev : Act.eval _ = ev
      have ec : ∀ c, ev (.const c) = c := fun c => by rw [← hev]; rfl
      have e85 : ev (.tmp 85) = .slice (some ⟨b0, off, none⟩) xs.length c := by rw [← hev]; exact (eval_put (by kernel_rfl) 123 rfl (by decide)).trans q42
      clear hev hd q42
      exact .inl ⟨_, W, by go_simp, rfl, Below.refl _ _⟩
    · obtain rfl := Option.some.inj hoo
      have q43 : uu 43 = .pointer (some ⟨b0, off + 19, none⟩) := hd 43 (by kernel_rfl)
      refine .inl ⟨wanted_none rfl, ?_⟩
      generalize hev : Act.eval _ = ev
      have ec : ∀ c, ev (.const c) = c := fun c => by rw [← hev]; rfl
      have e86 : ev (.tmp 86) = .pointer (some ⟨b0, off + 19, none⟩) := by rw [← hev]; exact (eval_put (by kernel_rfl) 123 rfl (by decide)).trans q43
      clear hev hd q43
      obtain ⟨cc0, cc1, cc2, cc3, cc4, cc5, cc6, cc7, cc8, cc9⟩ := HCC W hVW
      exact .inl ⟨_, W, by go_simp, rfl, Below.refl _ _⟩
    · obtain rfl := Option.some.inj hoo
      have q44 : uu 44 = .int .u8 (x19.toNat : Int) := hd 44 (by kernel_rfl)
      refine .inl ⟨wanted_none rfl, ?_⟩
      generalize hev : Act.eval _ = ev
      have ec : ∀ c, ev (.const c) = c := fun c => by rw [← hev]; rfl
      have e87 : ev (.tmp 87) = .int .u8 (x19.toNat : Int) := by rw [← hev]; exact (eval_put (by kernel_rfl) 123 rfl (by decide)).trans q44
      clear hev hd q44
      have hw : IntKind.u16.wrap (x19.toNat : Int) = (x19.toNat : Int) := by rw [IntKind.wrap_u16]; omega
      exact .inl ⟨_, W, by go_simp, rfl, Below.refl _ _⟩
    · obtain rfl := Option.some.inj hoo
      have q41 : uu 41 = .int .u16 ((x18.toNat : Int) * 256) := hd 41 (by kernel_rfl)
      have q45 : uu 45 = .int .u16 (x19.toNat : Int) := hd 45 (by kernel_rfl)
      refine .inl ⟨wanted_none rfl, ?_⟩
      generalize hev : Act.eval _ = ev
      have ec : ∀ c, ev (.const c) = c := fun c => by rw [← hev]; rfl
      have e84 : ev (.tmp 84) = .int .u16 ((x18.toNat : Int) * 256) := by rw [← hev]; exact (eval_put (by kernel_rfl) 123 rfl (by decide)).trans q41
      have e88 : ev (.tmp 88) = .int .u16 (x19.toNat : Int) := by rw [← hev]; exact (eval_put (by kernel_rfl) 123 rfl (by decide)).trans q45
      clear hev hd q41 q45
      have hh18 := (HT ()).out.2.2.2
      have hlt16 := u.toNat_lt
      have hw : IntKind.u16.wrap (u.toNat : Int) = (u.toNat : Int) := by rw [IntKind.wrap_u16]; omega
      exact .inl ⟨_, W, by go_simp, rfl, Below.refl _ _⟩
    · obtain rfl := Option.some.inj hoo
      have q9 : uu 9 = .int .u16 (a.toNat : Int) := hd 9 (by kernel_rfl)
      have q19 : uu 19 = .int .u16 (b.toNat : Int) := hd 19 (by kernel_rfl)
      have q23 : uu 23 = .int .u8 (r.toNat : Int) := hd 23 (by kernel_rfl)
      have q26 : uu 26 = .int .u8 (x13.toNat : Int) := hd 26 (by kernel_rfl)
      have q36 : uu 36 = .int .u16 (z.toNat : Int) := hd 36 (by kernel_rfl)
      have q46 : uu 46 = .int .u16 (u.toNat : Int) := hd 46 (by kernel_rfl)
      refine .inl ⟨wanted_none rfl, ?_⟩
      generalize hev : Act.eval _ = ev
      have ec : ∀ c, ev (.const c) = c := fun c => by rw [← hev]; rfl
      have e52 : ev (.tmp 52) = .int .u16 (a.toNat : Int) := by rw [← hev]; exact (eval_put (by kernel_rfl) 123 rfl (by decide)).trans q9
      have e62 : ev (.tmp 62) = .int .u16 (b.toNat : Int) := by rw [← hev]; exact (eval_put (by kernel_rfl) 123 rfl (by decide)).trans q19
      have e66 : ev (.tmp 66) = .int .u8 (r.toNat : Int) := by rw [← hev]; exact (eval_put (by kernel_rfl) 123 rfl (by decide)).trans q23
      have e69 : ev (.tmp 69) = .int .u8 (x13.toNat : Int) := by rw [← hev]; exact (eval_put (by kernel_rfl) 123 rfl (by decide)).trans q26
      have e79 : ev (.tmp 79) = .int .u16 (z.toNat : Int) := by rw [← hev]; exact (eval_put (by kernel_rfl) 123 rfl (by decide)).trans q36
      have e89 : ev (.tmp 89) = .int .u16 (u.toNat : Int) := by rw [← hev]; exact (eval_put (by kernel_rfl) 123 rfl (by decide)).trans q46
      clear hev hd q9 q19 q23 q26 q36 q46
      exact .inl ⟨_, W, by go_simp, rfl, Below.refl _ _⟩
    · obtain rfl := Option.some.inj hoo
      refine .inl ⟨wanted_none rfl, ?_⟩
      generalize hev : Act.eval _ = ev
      have ec : ∀ c, ev (.const c) = c := fun c => by rw [← hev]; rfl
      clear hev hd
      exact .inl ⟨_, W.alloc (.cells #[.int .u16 0, .int .u16 0, .int .u32 0, .int .u32 0, .int .u8 0, .int .u8 0, .int .u16 0, .int .u16 0, .slice none 0 0, .slice none 0 0] 26), by go_simp, ⟨W.heap.size, rfl, hVW.size, Blk.new W #[.int .u16 0, .int .u16 0, .int .u32 0, .int .u32 0, .int .u8 0, .int .u8 0, .int .u16 0, .int .u16 0, .slice none 0 0, .slice none 0 0] 26⟩, bnextA (Below.refl _ _) _⟩
    · omega
  · intro oo uu W hoo hVW hall
    obtain rfl := Option.some.inj hoo
    obtain ⟨g48, q48, hle48, hbk48⟩ := hall 48 (by decide)
    have q47 : uu 47 = .agg #[.int .u16 (a.toNat : Int), .int .u16 (b.toNat : Int), .int .u32 0, .int .u32 0, .int .u8 (r.toNat : Int), .int .u8 (x13.toNat : Int), .int .u16 (z.toNat : Int), .int .u16 (u.toNat : Int), .slice none 0 0, .slice none 0 0] := hall 47 (by decide)
    refine ⟨wanted_none rfl, ?_⟩
    generalize hev : Act.eval _ = ev
    have ec : ∀ c, ev (.const c) = c := fun c => by rw [← hev]; rfl
    have e9 : ev (.tmp 9) = .pointer (some ⟨g48, 0, none⟩) := by rw [← hev]; exact (eval_put (by kernel_rfl) 123 rfl (by decide)).trans q48
    have e90 : ev (.tmp 90) = .agg #[.int .u16 (a.toNat : Int), .int .u16 (b.toNat : Int), .int .u32 0, .int .u32 0, .int .u8 (r.toNat : Int), .int .u8 (x13.toNat : Int), .int .u16 (z.toNat : Int), .int .u16 (u.toNat : Int), .slice none 0 0, .slice none 0 0] := by rw [← hev]; exact (eval_put (by kernel_rfl) 123 rfl (by decide)).trans q47
    clear hev hall
    obtain ⟨p0, p1, p2, p3, p4, p5, p6, p7, p8, p9, g0, g1, g2, g3, g4, g5, g6, g7, g8, g9⟩ := hbk48.get10
    refine ⟨_, by (go_simp <;> rfl), ?_⟩
    clear HCC HT e9 e90
    simp only [putAll, Act.put, Nat.reduceAdd, q48]
    simp only [List.setIfInBounds_toArray, List.set_cons_succ, List.set_cons_zero]
    have hWU := bset10 hVW hle48 (.int .u16 (a.toNat : Int)) (.int .u16 (b.toNat : Int)) (.int .u32 0) (.int .u32 0) (.int .u8 (r.toNat : Int)) (.int .u8 (x13.toNat : Int)) (.int .u16 (z.toNat : Int)) (.int .u16 (u.toNat : Int)) (.slice none 0 0) (.slice none 0 0)
    have hK := hbk48.set10 (u0 := .int .u16 (a.toNat : Int)) (u1 := .int .u16 (b.toNat : Int)) (u2 := .int .u32 0) (u3 := .int .u32 0) (u4 := .int .u8 (r.toNat : Int)) (u5 := .int .u8 (x13.toNat : Int)) (u6 := .int .u16 (z.toNat : Int)) (u7 := .int .u16 (u.toNat : Int)) (u8 := .slice none 0 0) (u9 := .slice none 0 0)
    have hgl := Nat.lt_of_lt_of_le hR.lt hle48
    clear p0 p1 p2 p3 p4 p5 p6 p7 p8 p9 g0 g1 g2 g3 g4 g5 g6 g7 g8 g9
    simp only [setAll10] at hWU hK
    go_wp2_with fail
    refine (HG4 _ (hr.next hWU)).out.mono ?_
    rintro e w6 ⟨rfl, rfl⟩
    clear HG4
    obtain ⟨p0, p1, p2, p3, p4, p5, p6, p7, p8, p9, g0, g1, g2, g3, g4, g5, g6, g7, g8, g9⟩ := hK.get10
    go_wp2_with fail
    replace hWU := hWU.setCell (p := ⟨g48, 2, none⟩) hle48 (.int .u32 (q.toNat : Int))
    replace hK := hK.set 2 (.int .u32 (q.toNat : Int))
    clear p0 p1 p2 p3 p4 p5 p6 p7 p8 p9 g0 g1 g2 g3 g4 g5 g6 g7 g8 g9
    go_wp2_with fail
    refine (HG8 _ (hr.next hWU)).out.mono ?_
    rintro e w7 ⟨rfl, rfl⟩
    clear HG8
    obtain ⟨p0, p1, p2, p3, p4, p5, p6, p7, p8, p9, g0, g1, g2, g3, g4, g5, g6, g7, g8, g9⟩ := hK.get10
    go_wp2_with fail
    replace hWU := hWU.setCell (p := ⟨g48, 3, none⟩) hle48 (.int .u32 (k.toNat : Int))
    replace hK := hK.set 3 (.int .u32 (k.toNat : Int))
    clear p0 p1 p2 p3 p4 p5 p6 p7 p8 p9 g0 g1 g2 g3 g4 g5 g6 g7 g8 g9
    refine (HCUT1 _ (hr.next hWU)).out.mono ?_
    rintro e w10 ⟨v10, rfl, hown, hbel⟩
    obtain ⟨Lo, Ao, co, HLo, rfl, -⟩ := hown.rdv
    have hbase := hK.lt
    replace hWU := hWU.trans (hbel.mono hWU.size)
    replace hK := hK.next hbel
    rw [← HLo.out] at hown
    have hOo := hown
    clear hbel hown HCUT1
    obtain ⟨p0, p1, p2, p3, p4, p5, p6, p7, p8, p9, g0, g1, g2, g3, g4, g5, g6, g7, g8, g9⟩ := hK.get10
    go_wp2_with fail
    replace hWU := hWU.setCell (p := ⟨g48, 8, none⟩) hle48 (.slice Ao Lo.length co)
    replace hK := hK.set 8 (.slice Ao Lo.length co)
    replace hOo := hOo.setBelow (p := ⟨g48, 8, none⟩) hbase (.slice Ao Lo.length co)
    clear p0 p1 p2 p3 p4 p5 p6 p7 p8 p9 g0 g1 g2 g3 g4 g5 g6 g7 g8 g9
    refine (HCUT2 _ (hr.next hWU)).out.mono ?_
    rintro e w11 ⟨v11, rfl, hown, hbel⟩
    obtain ⟨Lx, Ax, cx, HLx, rfl, -⟩ := hown.rdv
    have hbase2 := hK.lt
    replace hWU := hWU.trans (hbel.mono hWU.size)
    replace hK := hK.next hbel
    replace hOo := hOo.nextO hbel
    rw [← HLx.out] at hown
    have hOx := hown
    clear hbel hown HCUT2
    obtain ⟨p0, p1, p2, p3, p4, p5, p6, p7, p8, p9, g0, g1, g2, g3, g4, g5, g6, g7, g8, g9⟩ := hK.get10
    obtain ⟨t0, t1, t2, t3, t4, t5, t6, t7, t8, t9, s0, s1, s2, s3, s4, s5, s6, s7, s8, s9⟩ := (hR.next hWU).get10
    have hne1 : ¬ w.heap.size = g48 := by omega
    have hne2 : ¬ g48 = w.heap.size := by omega
    replace hB := hB.trans (hWU.mono (Nat.le_of_lt hR.lt))
    have HO1 := Lib.hid hOo
    have HO2 := Lib.hid hOx
    clear hK hR hWU hOo hOx HM hm2 hr
    go_wp2_with fail
    simp [bodyPost, results, Try.results12, go_sem, *]
    have e1 := ((HO1.out.setBelow (p := ⟨g48, 9, none⟩) hbase (.slice Ax Lx.length cx)).set10 (g := w.heap.size) (Nat.lt_trans hgl hbase) (.int .u16 (a.toNat : Int)) (.int .u16 (b.toNat : Int)) (.int .u32 (q.toNat : Int)) (.int .u32 (k.toNat : Int)) (.int .u8 (r.toNat : Int)) (.int .u8 (x13.toNat : Int)) (.int .u16 (z.toNat : Int)) (.int .u16 (u.toNat : Int)) (.slice Ao Lo.length co) (.slice Ax Lx.length cx)).rdS
    have e2 := ((HO2.out.setBelow (p := ⟨g48, 9, none⟩) hbase2 (.slice Ax Lx.length cx)).set10 (g := w.heap.size) (Nat.lt_trans hgl hbase2) (.int .u16 (a.toNat : Int)) (.int .u16 (b.toNat : Int)) (.int .u32 (q.toNat : Int)) (.int .u32 (k.toNat : Int)) (.int .u8 (r.toNat : Int)) (.int .u8 (x13.toNat : Int)) (.int .u16 (z.toNat : Int)) (.int .u16 (u.toNat : Int)) (.slice Ao Lo.length co) (.slice Ax Lx.length cx)).rdS
    exact ⟨Lo, Ao, co, Lx, Ax, cx, ⟨⟨rfl, rfl, rfl⟩, rfl, rfl, rfl⟩, HLo, HLx, by simpa [setAll10] using e1, by simpa [setAll10] using e2, bset10 (hB.setCell (p := ⟨g48, 9, none⟩) (Nat.le_of_lt hgl) _) (Nat.le_refl _) _ _ _ _ _ _ _ _ _ _⟩

end Go.Proofs.Ytlceflfmdfoeiaa
