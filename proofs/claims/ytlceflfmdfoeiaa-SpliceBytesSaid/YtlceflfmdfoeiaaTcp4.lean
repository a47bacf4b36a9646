/- Contracts of tcp.Parse. -/
import Derived.Test.YtlceflfmdfoeiaaGet
import Derived.Test.YtlceflfmdfoeiaaTcp1
import Derived.BigRegion
namespace Go.Proofs.Ytlceflfmdfoeiaa
open Go.RowKit

theorem get32_b (A : Option Addr) (c : Nat) (bs : List UInt8) (k : Nat) (K : Int) (n : Nat) (hK : K = (k : Int)) (w : World) (hb : Rd bv w w.heap.size A c bs) (h : k + 4 ≤ bs.length) (hn : beN ((bs.drop k).take 4) = n) :
    Calls Try.prog 37 #[.slice A bs.length c, .int .i64 K] w fun e w' => e = .returned (.tuple #[.int .u32 (n : Int), .bool true]) ∧ Below w.heap.size w w' := by
  subst hK hn
  exact (get32_yes A c bs k w _ hb h).mono fun e w' ⟨he, j, hw⟩ => ⟨he, by subst hw; exact below_drewN (Below.refl _ _) j⟩

theorem tparse_short (s d : UInt32) (A : Option Addr) (c : Nat) (xs : List UInt8) (w : World) (hr : Rd bv w w.heap.size A c xs) (h20 : xs.length < 20) :
    Calls Try.prog 20 #[.int .u32 (s.toNat : Int), .int .u32 (d.toNat : Int), .slice A xs.length c] w fun e w' => e = .returned (.tuple #[.agg #[.int .u16 0, .int .u16 0, .int .u32 0, .int .u32 0, .int .u8 0, .int .u8 0, .int .u16 0, .int .u16 0, .slice none 0 0, .slice none 0 0], .int .i64 4]) ∧ Below w.heap.size w w' := by
  have hlc := hr.len
  have hcc := hr.cap
  go_enter Try.func20, Try.ntmps20
  go_wp2_with fail
  simp [bodyPost, results, Try.results20, go_sem, *]
  exact bnextA (Below.refl _ _) _

theorem tparse_form0 (s d : UInt32) (A : Option Addr) (c : Nat) (xs : List UInt8) (w : World) (hr : Rd bv w w.heap.size A c xs) (h20 : 20 ≤ xs.length) (hm : (xs[12]).toNat / 16 < 5) :
    Calls Try.prog 20 #[.int .u32 (s.toNat : Int), .int .u32 (d.toNat : Int), .slice A xs.length c] w fun e w' => e = .returned (.tuple #[.agg #[.int .u16 0, .int .u16 0, .int .u32 0, .int .u32 0, .int .u8 0, .int .u8 0, .int .u16 0, .int .u16 0, .slice none 0 0, .slice none 0 0], .int .i64 3]) ∧ Below w.heap.size w w' := by
  have hlc := hr.len
  have hcc := hr.cap
  obtain ⟨b0, off, rfl, hB0, hcell⟩ := byt_at hr (k := 12) (by omega)
  have k12 := ((bnextA (Below.refl w.heap.size w) (.cells #[.int .u16 0, .int .u16 0, .int .u32 0, .int .u32 0, .int .u8 0, .int .u8 0, .int .u16 0, .int .u16 0, .slice none 0 0, .slice none 0 0] 26)).cell hB0).trans (hcell 12 (by omega))
  have hx12 := (xs[12]).toNat_lt
  have i12 : (12 : Int) < (xs.length : Int) := by omega
  generalize xs[12] = x12 at *
  clear hcell hr
  go_enter Try.func20, Try.ntmps20
  go_wp2_with fail
  simp [bodyPost, results, Try.results20, go_sem, *]
  exact bnextA (Below.refl _ _) _

theorem tparse_form1 (s d : UInt32) (A : Option Addr) (c : Nat) (xs : List UInt8) (w : World) (hr : Rd bv w w.heap.size A c xs) (h20 : 20 ≤ xs.length) (hm : 5 ≤ (xs[12]).toNat / 16) (hbig : 65535 < xs.length) :
    Calls Try.prog 20 #[.int .u32 (s.toNat : Int), .int .u32 (d.toNat : Int), .slice A xs.length c] w fun e w' => e = .returned (.tuple #[.agg #[.int .u16 0, .int .u16 0, .int .u32 0, .int .u32 0, .int .u8 0, .int .u8 0, .int .u16 0, .int .u16 0, .slice none 0 0, .slice none 0 0], .int .i64 3]) ∧ Below w.heap.size w w' := by
  have hlc := hr.len
  have hcc := hr.cap
  obtain ⟨b0, off, rfl, hB0, hcell⟩ := byt_at hr (k := 12) (by omega)
  have k12 := ((bnextA (Below.refl w.heap.size w) (.cells #[.int .u16 0, .int .u16 0, .int .u32 0, .int .u32 0, .int .u8 0, .int .u8 0, .int .u16 0, .int .u16 0, .slice none 0 0, .slice none 0 0] 26)).cell hB0).trans (hcell 12 (by omega))
  have hx12 := (xs[12]).toNat_lt
  have i12 : (12 : Int) < (xs.length : Int) := by omega
  generalize xs[12] = x12 at *
  clear hcell hr
  go_enter Try.func20, Try.ntmps20
  go_wp2_with fail
  simp [bodyPost, results, Try.results20, go_sem, *]
  exact bnextA (Below.refl _ _) _

theorem tparse_long (s d : UInt32) (A : Option Addr) (c : Nat) (xs : List UInt8) (w : World) (hr : Rd bv w w.heap.size A c xs) (h20 : 20 ≤ xs.length) (hm : 5 ≤ (xs[12]).toNat / 16) (hbig : xs.length ≤ 65535) (hl : xs.length < 4 * ((xs[12]).toNat / 16)) :
    Calls Try.prog 20 #[.int .u32 (s.toNat : Int), .int .u32 (d.toNat : Int), .slice A xs.length c] w fun e w' => e = .returned (.tuple #[.agg #[.int .u16 0, .int .u16 0, .int .u32 0, .int .u32 0, .int .u8 0, .int .u8 0, .int .u16 0, .int .u16 0, .slice none 0 0, .slice none 0 0], .int .i64 4]) ∧ Below w.heap.size w w' := by
  have hlc := hr.len
  have hcc := hr.cap
  obtain ⟨b0, off, rfl, hB0, hcell⟩ := byt_at hr (k := 12) (by omega)
  have k12 := ((bnextA (Below.refl w.heap.size w) (.cells #[.int .u16 0, .int .u16 0, .int .u32 0, .int .u32 0, .int .u8 0, .int .u8 0, .int .u16 0, .int .u16 0, .slice none 0 0, .slice none 0 0] 26)).cell hB0).trans (hcell 12 (by omega))
  have hx12 := (xs[12]).toNat_lt
  have i12 : (12 : Int) < (xs.length : Int) := by omega
  generalize xs[12] = x12 at *
  clear hcell hr
  go_enter Try.func20, Try.ntmps20
  go_wp2_with fail
  simp [bodyPost, results, Try.results20, go_sem, *]
  exact bnextA (Below.refl _ _) _

set_option maxHeartbeats 1000000 in
theorem tparse_sum (s d : UInt32) (A : Option Addr) (c : Nat) (xs : List UInt8) (w : World) (hr : Rd bv w w.heap.size A c xs) (h20 : 20 ≤ xs.length) (hm : 5 ≤ (xs[12]).toNat / 16) (hbig : xs.length ≤ 65535) (hl : 4 * ((xs[12]).toNat / 16) ≤ xs.length) (hN : onesN (uh s d 6 xs.length ++ xs) ≠ 65535) :
    Calls Try.prog 20 #[.int .u32 (s.toNat : Int), .int .u32 (d.toNat : Int), .slice A xs.length c] w fun e w' => e = .returned (.tuple #[.agg #[.int .u16 0, .int .u16 0, .int .u32 0, .int .u32 0, .int .u8 0, .int .u8 0, .int .u16 0, .int .u16 0, .slice none 0 0, .slice none 0 0], .int .i64 5]) ∧ Below w.heap.size w w' := by
  have hlc := hr.len
  have hcc := hr.cap
  obtain ⟨b0, off, rfl, hB0, hcell⟩ := byt_at hr (k := 12) (by omega)
  have k12 := ((bnextA (Below.refl w.heap.size w) (.cells #[.int .u16 0, .int .u16 0, .int .u32 0, .int .u32 0, .int .u8 0, .int .u8 0, .int .u16 0, .int .u16 0, .slice none 0 0, .slice none 0 0] 26)).cell hB0).trans (hcell 12 (by omega))
  have hx12 := (xs[12]).toNat_lt
  have i12 : (12 : Int) < (xs.length : Int) := by omega
  have hrs := hr
  have HH := fun W => Lib.hid (tfalse_any s d (some ⟨b0, off, none⟩) c xs W hbig)
  have HN := fun (_ : Unit) => Lib.hid hN
  generalize xs[12] = x12 at *
  clear hcell hN hrs
  go_enter Try.func20, Try.ntmps20
  go_wp2_with fail
  refine (HH _).out.mono ?_
  rintro e w1 ⟨L1, A1, c1, rfl, HL1, r1, hbel⟩
  have hR := (Blk.new w #[.int .u16 0, .int .u16 0, .int .u32 0, .int .u32 0, .int .u8 0, .int .u8 0, .int .u16 0, .int .u16 0, .slice none 0 0, .slice none 0 0] 26).next hbel
  have hB := bnext (bnextA (Below.refl w.heap.size w) _) hbel
  replace hr := (hr.nextA _).next hbel
  clear hbel HH
  go_wp2_with fail
  refine (sright_no _ _ _ 2 [L1, xs] (parts_at _ rfl (.cons r1 (.cons hr .nil)) _ rfl _) rfl (by omega) (by omega) (by simp [HL1.out, uh_len]; omega) (by rw [HL1.out]; simpa using (HN ()).out)).mono ?_
  rintro e w2 ⟨rfl, hbel⟩
  replace hB := bnext (bnextA hB _) hbel
  replace hR := (hR.alloc _).next hbel
  obtain ⟨p0, p1, p2, p3, p4, p5, p6, p7, p8, p9, g0, g1, g2, g3, g4, g5, g6, g7, g8, g9⟩ := hR.get10
  clear hbel r1 hr HN hR
  go_wp2_with fail
  simp [bodyPost, results, Try.results20, go_sem, *]
  exact bset10 hB (Nat.le_refl _) _ _ _ _ _ _ _ _ _ _

set_option maxHeartbeats 4000000 in
theorem tparse_ok (s d : UInt32) (A : Option Addr) (c : Nat) (xs : List UInt8) (w : World) (hr : Rd bv w w.heap.size A c xs) (h20 : 20 ≤ xs.length) (m : Nat) (hm : (xs[12]).toNat / 16 = m) (hm5 : 5 ≤ m) (hbig : xs.length ≤ 65535) (hl : 4 * m ≤ xs.length) (hN : onesN (uh s d 6 xs.length ++ xs) = 65535)
    (a b : UInt16) (q k : UInt32) (r f : UInt8) (z u : UInt16) (ha : beN ((xs.drop 0).take 2) = a.toNat) (hb : beN ((xs.drop 2).take 2) = b.toNat) (hq : beN ((xs.drop 4).take 4) = q.toNat) (hk : beN ((xs.drop 8).take 4) = k.toNat) (hr4 : (xs[12]).toNat % 16 = r.toNat) (hf : xs[13] = f) (hz : beN ((xs.drop 14).take 2) = z.toNat) (hu : beN ((xs.drop 18).take 2) = u.toNat) :
    Calls Try.prog 20 #[.int .u32 (s.toNat : Int), .int .u32 (d.toNat : Int), .slice A xs.length c] w fun e w' => ∃ Lo Ao co Lx Ax cx, e = .returned (.tuple #[.agg #[.int .u16 (a.toNat : Int), .int .u16 (b.toNat : Int), .int .u32 (q.toNat : Int), .int .u32 (k.toNat : Int), .int .u8 (r.toNat : Int), .int .u8 (f.toNat : Int), .int .u16 (z.toNat : Int), .int .u16 (u.toNat : Int), .slice Ao Lo.length co, .slice Ax Lx.length cx], .int .i64 0]) ∧ Hid (Lo = (xs.drop 20).take (4 * m - 20)) ∧ Hid (Lx = xs.drop (4 * m)) ∧ Rd bv w' w'.heap.size Ao co Lo ∧ Rd bv w' w'.heap.size Ax cx Lx ∧ Below w.heap.size w w' := by
  have hlc := hr.len
  have hcc := hr.cap
  obtain ⟨b0, off, rfl, hB0, hcell⟩ := byt_at hr (k := 12) (by omega)
  have k12 := ((bnextA (Below.refl w.heap.size w) (.cells #[.int .u16 0, .int .u16 0, .int .u32 0, .int .u32 0, .int .u8 0, .int .u8 0, .int .u16 0, .int .u16 0, .slice none 0 0, .slice none 0 0] 26)).cell hB0).trans (hcell 12 (by omega))
  have hx12 := (xs[12]).toNat_lt
  have i12 : (12 : Int) < (xs.length : Int) := by omega
  have hrs := hr
  have HH := fun W => Lib.hid (tfalse_any s d (some ⟨b0, off, none⟩) c xs W hbig)
  have HN := fun (_ : Unit) => Lib.hid hN
  have hB13 := ((bnextA (Below.refl w.heap.size w) (.cells #[.int .u16 0, .int .u16 0, .int .u32 0, .int .u32 0, .int .u8 0, .int .u8 0, .int .u16 0, .int .u16 0, .slice none 0 0, .slice none 0 0] 26)))
  have i13 : (13 : Int) < (xs.length : Int) := by omega
  have HC : ∀ U, Below w.heap.size w U → U.cell? ⟨b0, off + 12, none⟩ = some (.int .u8 ((xs[12]).toNat : Int)) ∧ U.cell? ⟨b0, off + 13, none⟩ = some (.int .u8 (f.toNat : Int)) := by
    intro U h
    refine ⟨(h.cell hB0).trans (hcell 12 (by omega)), (h.cell hB0).trans ?_⟩
    rw [hcell 13 (by omega), hf]
  have hG0 := fun W (h : Rd bv W W.heap.size (some ⟨b0, off, none⟩) c xs) => Lib.hid (get16_b (some ⟨b0, off, none⟩) c xs 0 0 _ rfl W h (by omega) ha)
  have hG2 := fun W (h : Rd bv W W.heap.size (some ⟨b0, off, none⟩) c xs) => Lib.hid (get16_b (some ⟨b0, off, none⟩) c xs 2 2 _ rfl W h (by omega) hb)
  have hG4 := fun W (h : Rd bv W W.heap.size (some ⟨b0, off, none⟩) c xs) => Lib.hid (get32_b (some ⟨b0, off, none⟩) c xs 4 4 _ rfl W h (by omega) hq)
  have hG8 := fun W (h : Rd bv W W.heap.size (some ⟨b0, off, none⟩) c xs) => Lib.hid (get32_b (some ⟨b0, off, none⟩) c xs 8 8 _ rfl W h (by omega) hk)
  have hG14 := fun W (h : Rd bv W W.heap.size (some ⟨b0, off, none⟩) c xs) => Lib.hid (get16_b (some ⟨b0, off, none⟩) c xs 14 14 _ rfl W h (by omega) hz)
  have hG18 := fun W (h : Rd bv W W.heap.size (some ⟨b0, off, none⟩) c xs) => Lib.hid (get16_b (some ⟨b0, off, none⟩) c xs 18 18 _ rfl W h (by omega) hu)
  have hcut1 := fun W (h : Rd bv W W.heap.size (some ⟨b0, off, none⟩) c xs) => cut_yes (some ⟨b0, off, none⟩) c xs 20 (4 * m - 20) W h (by omega) (by omega)
  have hcut2 := fun W (h : Rd bv W W.heap.size (some ⟨b0, off, none⟩) c xs) => cut_yes (some ⟨b0, off, none⟩) c xs (4 * m) (xs.length - 4 * m) W h (by omega) (by omega)
  rw [show ((4 * m - 20 : Nat) : Int) = 4 * (m : Int) - 20 by omega] at hcut1
  rw [show ((xs.length - 4 * m : Nat) : Int) = (xs.length : Int) - 4 * (m : Int) by omega, show ((4 * m : Nat) : Int) = 4 * (m : Int) by omega, List.take_of_length_le (by simp)] at hcut2
  have HCUT1 := fun W h => Lib.hid (hcut1 W h)
  have HCUT2 := fun W h => Lib.hid (hcut2 W h)
  have a15 := and15 (xs[12])
  rw [hr4] at a15
  generalize xs[12] = x12 at *
  have hm' : (x12.toNat : Int) / 16 = (m : Int) := by omega
  have HM := fun (_ : Unit) => Lib.hid hm'
  clear hcell hN hrs hcut1 hcut2 ha hb hq hk hr4 hf hz hu hB13 hm hm'
  go_enter Try.func20, Try.ntmps20
  have hm2 := (HM ()).out
  have hx16 : x12.toNat / 16 = m := by omega
  go_wp2_with fail
  refine (HH _).out.mono ?_
  rintro e w1 ⟨L1, A1, c1, rfl, HL1, r1, hbel⟩
  have hR := (Blk.new w #[.int .u16 0, .int .u16 0, .int .u32 0, .int .u32 0, .int .u8 0, .int .u8 0, .int .u16 0, .int .u16 0, .slice none 0 0, .slice none 0 0] 26).next hbel
  have hB := bnext (bnextA (Below.refl w.heap.size w) _) hbel
  replace hr := (hr.nextA _).next hbel
  clear hbel HH
  go_wp2_with fail
  refine (sright_yes _ _ _ 2 [L1, xs] (parts_at _ rfl (.cons r1 (.cons hr .nil)) _ rfl _) rfl (by omega) (by omega) (by simp [HL1.out, uh_len]; omega) (by rw [HL1.out]; simpa using (HN ()).out)).mono ?_
  rintro e W ⟨rfl, hbel⟩
  replace hB := bnext (bnextA hB _) hbel
  replace hR := (hR.alloc _).next hbel
  replace hr := (hr.nextA _).next hbel
  obtain ⟨k12', k13⟩ := HC _ hB
  obtain ⟨k12a, k13a⟩ := HC _ (bnextA hB (.cells #[.int .u16 0, .int .u16 0, .int .u32 0, .int .u32 0, .int .u8 0, .int .u8 0, .int .u16 0, .int .u16 0, .slice none 0 0, .slice none 0 0] 26))
  clear hbel r1 HN HC
  go_wp2_with fail
  go_region
  have hWU := (bnextA (Below.refl W.heap.size W) (.cells #[.int .u16 0, .int .u16 0, .int .u32 0, .int .u32 0, .int .u8 (r.toNat : Int), .int .u8 (f.toNat : Int), .int .u16 0, .int .u16 0, .slice none 0 0, .slice none 0 0] 26)).drew
  have hK := (Blk.new W #[.int .u16 0, .int .u16 0, .int .u32 0, .int .u32 0, .int .u8 (r.toNat : Int), .int .u8 (f.toNat : Int), .int .u16 0, .int .u16 0, .slice none 0 0, .slice none 0 0] 26).drew
  have hlt := hR.lt
  clear k12' k13 k12a k13a
  go_wp2_with fail
  refine (hG0 _ (hr.next hWU)).out.mono ?_
  rintro e w2 ⟨rfl, hbel⟩
  replace hWU := bnext hWU hbel
  replace hK := hK.next hbel
  clear hbel hG0
  obtain ⟨p0, p1, p2, p3, p4, p5, p6, p7, p8, p9, g0, g1, g2, g3, g4, g5, g6, g7, g8, g9⟩ := hK.get10
  go_wp2_with fail
  replace hWU := hWU.setCell (p := ⟨W.heap.size, 0, none⟩) (Nat.le_refl _) (.int .u16 (a.toNat : Int))
  replace hK := hK.set 0 (.int .u16 (a.toNat : Int))
  clear p0 p1 p2 p3 p4 p5 p6 p7 p8 p9 g0 g1 g2 g3 g4 g5 g6 g7 g8 g9
  go_wp2_with fail
  refine (hG2 _ (hr.next hWU)).out.mono ?_
  rintro e w3 ⟨rfl, hbel⟩
  replace hWU := bnext hWU hbel
  replace hK := hK.next hbel
  clear hbel hG2
  obtain ⟨p0, p1, p2, p3, p4, p5, p6, p7, p8, p9, g0, g1, g2, g3, g4, g5, g6, g7, g8, g9⟩ := hK.get10
  go_wp2_with fail
  replace hWU := hWU.setCell (p := ⟨W.heap.size, 1, none⟩) (Nat.le_refl _) (.int .u16 (b.toNat : Int))
  replace hK := hK.set 1 (.int .u16 (b.toNat : Int))
  clear p0 p1 p2 p3 p4 p5 p6 p7 p8 p9 g0 g1 g2 g3 g4 g5 g6 g7 g8 g9
  go_wp2_with fail
  refine (hG4 _ (hr.next hWU)).out.mono ?_
  rintro e w4 ⟨rfl, hbel⟩
  replace hWU := bnext hWU hbel
  replace hK := hK.next hbel
  clear hbel hG4
  obtain ⟨p0, p1, p2, p3, p4, p5, p6, p7, p8, p9, g0, g1, g2, g3, g4, g5, g6, g7, g8, g9⟩ := hK.get10
  go_wp2_with fail
  replace hWU := hWU.setCell (p := ⟨W.heap.size, 2, none⟩) (Nat.le_refl _) (.int .u32 (q.toNat : Int))
  replace hK := hK.set 2 (.int .u32 (q.toNat : Int))
  clear p0 p1 p2 p3 p4 p5 p6 p7 p8 p9 g0 g1 g2 g3 g4 g5 g6 g7 g8 g9
  go_wp2_with fail
  refine (hG8 _ (hr.next hWU)).out.mono ?_
  rintro e w5 ⟨rfl, hbel⟩
  replace hWU := bnext hWU hbel
  replace hK := hK.next hbel
  clear hbel hG8
  obtain ⟨p0, p1, p2, p3, p4, p5, p6, p7, p8, p9, g0, g1, g2, g3, g4, g5, g6, g7, g8, g9⟩ := hK.get10
  go_wp2_with fail
  replace hWU := hWU.setCell (p := ⟨W.heap.size, 3, none⟩) (Nat.le_refl _) (.int .u32 (k.toNat : Int))
  replace hK := hK.set 3 (.int .u32 (k.toNat : Int))
  clear p0 p1 p2 p3 p4 p5 p6 p7 p8 p9 g0 g1 g2 g3 g4 g5 g6 g7 g8 g9
  go_wp2_with fail
  refine (hG14 _ (hr.next hWU)).out.mono ?_
  rintro e w8 ⟨rfl, hbel⟩
  replace hWU := bnext hWU hbel
  replace hK := hK.next hbel
  clear hbel hG14
  obtain ⟨p0, p1, p2, p3, p4, p5, p6, p7, p8, p9, g0, g1, g2, g3, g4, g5, g6, g7, g8, g9⟩ := hK.get10
  go_wp2_with fail
  replace hWU := hWU.setCell (p := ⟨W.heap.size, 6, none⟩) (Nat.le_refl _) (.int .u16 (z.toNat : Int))
  replace hK := hK.set 6 (.int .u16 (z.toNat : Int))
  clear p0 p1 p2 p3 p4 p5 p6 p7 p8 p9 g0 g1 g2 g3 g4 g5 g6 g7 g8 g9
  go_wp2_with fail
  refine (hG18 _ (hr.next hWU)).out.mono ?_
  rintro e w9 ⟨rfl, hbel⟩
  replace hWU := bnext hWU hbel
  replace hK := hK.next hbel
  clear hbel hG18
  obtain ⟨p0, p1, p2, p3, p4, p5, p6, p7, p8, p9, g0, g1, g2, g3, g4, g5, g6, g7, g8, g9⟩ := hK.get10
  go_wp2_with fail
  replace hWU := hWU.setCell (p := ⟨W.heap.size, 7, none⟩) (Nat.le_refl _) (.int .u16 (u.toNat : Int))
  replace hK := hK.set 7 (.int .u16 (u.toNat : Int))
  clear p0 p1 p2 p3 p4 p5 p6 p7 p8 p9 g0 g1 g2 g3 g4 g5 g6 g7 g8 g9
  refine (HCUT1 _ (hr.next hWU)).out.mono ?_
  rintro e w10 ⟨v10, rfl, hown, hbel⟩
  obtain ⟨Lo, Ao, co, HLo, rfl, -⟩ := hown.rdv
  have hbase := hK.lt
  replace hWU := bnext hWU hbel
  replace hK := hK.next hbel
  rw [← HLo.out] at hown
  have hOo := hown
  clear hbel hown HCUT1
  obtain ⟨p0, p1, p2, p3, p4, p5, p6, p7, p8, p9, g0, g1, g2, g3, g4, g5, g6, g7, g8, g9⟩ := hK.get10
  go_wp2_with fail
  replace hWU := hWU.setCell (p := ⟨W.heap.size, 8, none⟩) (Nat.le_refl _) (.slice Ao Lo.length co)
  replace hK := hK.set 8 (.slice Ao Lo.length co)
  replace hOo := hOo.setBelow (p := ⟨W.heap.size, 8, none⟩) hbase (.slice Ao Lo.length co)
  clear p0 p1 p2 p3 p4 p5 p6 p7 p8 p9 g0 g1 g2 g3 g4 g5 g6 g7 g8 g9
  refine (HCUT2 _ (hr.next hWU)).out.mono ?_
  rintro e w11 ⟨v11, rfl, hown, hbel⟩
  obtain ⟨Lx, Ax, cx, HLx, rfl, -⟩ := hown.rdv
  have hbase2 := hK.lt
  replace hWU := bnext hWU hbel
  replace hK := hK.next hbel
  replace hOo := hOo.nextO hbel
  rw [← HLx.out] at hown
  have hOx := hown
  clear hbel hown HCUT2 hr
  obtain ⟨p0, p1, p2, p3, p4, p5, p6, p7, p8, p9, g0, g1, g2, g3, g4, g5, g6, g7, g8, g9⟩ := hK.get10
  obtain ⟨t0, t1, t2, t3, t4, t5, t6, t7, t8, t9, s0, s1, s2, s3, s4, s5, s6, s7, s8, s9⟩ := (hR.next hWU).get10
  have hne1 : ¬ w.heap.size = W.heap.size := by omega
  have hne2 : ¬ W.heap.size = w.heap.size := by omega
  replace hB := hB.trans (hWU.mono (Nat.le_of_lt hlt))
  have HO1 := Lib.hid hOo
  have HO2 := Lib.hid hOx
  clear hK hR hWU hOo hOx HM hm2
  go_wp2_with fail
  simp [bodyPost, results, Try.results20, go_sem, *]
  have e1 := ((HO1.out.setBelow (p := ⟨W.heap.size, 9, none⟩) hbase (.slice Ax Lx.length cx)).set10 (g := w.heap.size) (Nat.lt_trans hlt hbase) (.int .u16 (a.toNat : Int)) (.int .u16 (b.toNat : Int)) (.int .u32 (q.toNat : Int)) (.int .u32 (k.toNat : Int)) (.int .u8 (r.toNat : Int)) (.int .u8 (f.toNat : Int)) (.int .u16 (z.toNat : Int)) (.int .u16 (u.toNat : Int)) (.slice Ao Lo.length co) (.slice Ax Lx.length cx)).rdS
  have e2 := ((HO2.out.setBelow (p := ⟨W.heap.size, 9, none⟩) hbase2 (.slice Ax Lx.length cx)).set10 (g := w.heap.size) (Nat.lt_trans hlt hbase2) (.int .u16 (a.toNat : Int)) (.int .u16 (b.toNat : Int)) (.int .u32 (q.toNat : Int)) (.int .u32 (k.toNat : Int)) (.int .u8 (r.toNat : Int)) (.int .u8 (f.toNat : Int)) (.int .u16 (z.toNat : Int)) (.int .u16 (u.toNat : Int)) (.slice Ao Lo.length co) (.slice Ax Lx.length cx)).rdS
  exact ⟨Lo, Ao, co, Lx, Ax, cx, ⟨⟨rfl, rfl, rfl⟩, rfl, rfl, rfl⟩, HLo, HLx, by simpa [setAll10] using e1, by simpa [setAll10] using e2, bset10 (hB.setCell (p := ⟨W.heap.size, 9, none⟩) (Nat.le_of_lt hlt) _) (Nat.le_refl _) _ _ _ _ _ _ _ _ _ _⟩
end Go.Proofs.Ytlceflfmdfoeiaa
