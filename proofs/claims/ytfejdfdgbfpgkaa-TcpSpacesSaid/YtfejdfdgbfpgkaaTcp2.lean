/- Contracts of tcp.Put and of the reference's. -/
import Derived.Test.YtfejdfdgbfpgkaaTcp1
import Derived.Test.YtfejdfdgbfpgkaaReg
namespace Go.Proofs.Ytfejdfdgbfpgkaa
open Go.RowKit

theorem Parts.next {w w' : World} {B g : Nat} {ls : List (List UInt8)} (h : Parts w B g ls) (hg : g < w.heap.size) (hB : B ≤ w.heap.size) (hb : Below w.heap.size w w') : Parts w' B g ls := by
  obtain ⟨vs, h1, h2⟩ := h
  exact ⟨vs, h1.keep (hb.mono hB), fun i v hv => (hb.cell hg).trans (h2 i v hv)⟩
/-- The byte of a head's words and what is reserved. -/
theorem th_of (m r : Nat) (hm : m ≤ 15) (hr : r ≤ 15) : ∃ h : UInt8, h.toNat = m * 16 + r ∧ bits BinOp.or IntKind.u8 ((m : Int) * 16) (r : Int) = (h.toNat : Int) := by
  refine ⟨UInt8.ofNat (m * 16 + r), by simp; omega, ?_⟩
  have e : (UInt8.ofNat (m * 16 + r)).toNat = m * 16 + r := by simp; omega
  rw [e, show (m : Int) * 16 = ((m * 16 : Nat) : Int) by omega, u8_or_nat _ _ (by omega) (by omega), nat_join 4 _ _ (by omega) (by omega)]
theorem tb_set (a b : UInt16) (q k : UInt32) (h f : UInt8) (z u : UInt16) (x : Nat) (hx : x ≤ 65535) (os xs : List UInt8) : ((tb a b q k h f z u 0 os xs).set 16 (UInt8.ofNat (x / 256))).set 17 (UInt8.ofNat (x % 256)) = tb a b q k h f z u x os xs := by
  rw [tb, tb, be16_ofNat x hx]
  rfl

theorem tput_bad0 (s d : UInt32) (a b : UInt16) (q k : UInt32) (r f : UInt8) (z u : UInt16) (A1 A2 : Option Addr) (n1 c1 n2 c2 : Nat) (hn1 : n1 ≤ 1000000000) (hn2 : n2 ≤ 1000000000) (w : World) (h1 : 15 < r.toNat) :
    Calls Try.prog 35 #[.int .u32 (s.toNat : Int), .int .u32 (d.toNat : Int), .agg #[.int .u16 (a.toNat : Int), .int .u16 (b.toNat : Int), .int .u32 (q.toNat : Int), .int .u32 (k.toNat : Int), .int .u8 (r.toNat : Int), .int .u8 (f.toNat : Int), .int .u16 (z.toNat : Int), .int .u16 (u.toNat : Int), .slice A1 n1 c1, .slice A2 n2 c2]] w fun e w' => e = .returned (.tuple #[.slice none 0 0, .int .i64 2]) ∧ Below w.heap.size w w' := by
  have hc := fun W => Lib.hid (tcheck_bad0 a b q k r f z u A1 A2 n1 c1 n2 c2 hn1 hn2 W h1)
  clear h1
  go_enter Try.func35, Try.ntmps35
  go_wp2_with fail
  refine (hc _).out.mono ?_
  rintro e w1 ⟨rfl, hbel⟩
  go_wp2_with fail
  go_ret2
  exact ⟨rfl, bnext (bnextA (Below.refl _ _) _) hbel⟩

theorem rtput_bad0 (s d : UInt32) (a b : UInt16) (q k : UInt32) (r f : UInt8) (z u : UInt16) (A1 A2 : Option Addr) (n1 c1 n2 c2 : Nat) (hn1 : n1 ≤ 1000000000) (hn2 : n2 ≤ 1000000000) (w : World) (h1 : 15 < r.toNat) :
    Calls Try.prog 36 #[.int .u32 (s.toNat : Int), .int .u32 (d.toNat : Int), .agg #[.int .u16 (a.toNat : Int), .int .u16 (b.toNat : Int), .int .u32 (q.toNat : Int), .int .u32 (k.toNat : Int), .int .u8 (r.toNat : Int), .int .u8 (f.toNat : Int), .int .u16 (z.toNat : Int), .int .u16 (u.toNat : Int), .slice A1 n1 c1, .slice A2 n2 c2]] w fun e w' => e = .returned (.tuple #[.slice none 0 0, .int .i64 2]) ∧ Below w.heap.size w w' := by
  have hc := fun W => Lib.hid (rtmay_bad0 a b q k r f z u A1 A2 n1 c1 n2 c2 hn1 hn2 W h1)
  clear h1
  go_enter Try.func36, Try.ntmps36
  go_wp2_with fail
  refine (hc _).out.mono ?_
  rintro e w1 ⟨rfl, hbel⟩
  go_wp2_with fail
  go_ret2
  exact ⟨rfl, bnext (bnextA (Below.refl _ _) _) hbel⟩

theorem tput_bad1 (s d : UInt32) (a b : UInt16) (q k : UInt32) (r f : UInt8) (z u : UInt16) (A1 A2 : Option Addr) (n1 c1 n2 c2 : Nat) (hn1 : n1 ≤ 1000000000) (hn2 : n2 ≤ 1000000000) (w : World) (h1 : r.toNat ≤ 15) (h2 : 40 < n1) :
    Calls Try.prog 35 #[.int .u32 (s.toNat : Int), .int .u32 (d.toNat : Int), .agg #[.int .u16 (a.toNat : Int), .int .u16 (b.toNat : Int), .int .u32 (q.toNat : Int), .int .u32 (k.toNat : Int), .int .u8 (r.toNat : Int), .int .u8 (f.toNat : Int), .int .u16 (z.toNat : Int), .int .u16 (u.toNat : Int), .slice A1 n1 c1, .slice A2 n2 c2]] w fun e w' => e = .returned (.tuple #[.slice none 0 0, .int .i64 2]) ∧ Below w.heap.size w w' := by
  have hc := fun W => Lib.hid (tcheck_bad1 a b q k r f z u A1 A2 n1 c1 n2 c2 hn1 hn2 W h1 h2)
  clear h1 h2
  go_enter Try.func35, Try.ntmps35
  go_wp2_with fail
  refine (hc _).out.mono ?_
  rintro e w1 ⟨rfl, hbel⟩
  go_wp2_with fail
  go_ret2
  exact ⟨rfl, bnext (bnextA (Below.refl _ _) _) hbel⟩

theorem rtput_bad1 (s d : UInt32) (a b : UInt16) (q k : UInt32) (r f : UInt8) (z u : UInt16) (A1 A2 : Option Addr) (n1 c1 n2 c2 : Nat) (hn1 : n1 ≤ 1000000000) (hn2 : n2 ≤ 1000000000) (w : World) (h1 : r.toNat ≤ 15) (h2 : 40 < n1) :
    Calls Try.prog 36 #[.int .u32 (s.toNat : Int), .int .u32 (d.toNat : Int), .agg #[.int .u16 (a.toNat : Int), .int .u16 (b.toNat : Int), .int .u32 (q.toNat : Int), .int .u32 (k.toNat : Int), .int .u8 (r.toNat : Int), .int .u8 (f.toNat : Int), .int .u16 (z.toNat : Int), .int .u16 (u.toNat : Int), .slice A1 n1 c1, .slice A2 n2 c2]] w fun e w' => e = .returned (.tuple #[.slice none 0 0, .int .i64 2]) ∧ Below w.heap.size w w' := by
  have hc := fun W => Lib.hid (rtmay_bad1 a b q k r f z u A1 A2 n1 c1 n2 c2 hn1 hn2 W h1 h2)
  clear h1 h2
  go_enter Try.func36, Try.ntmps36
  go_wp2_with fail
  refine (hc _).out.mono ?_
  rintro e w1 ⟨rfl, hbel⟩
  go_wp2_with fail
  go_ret2
  exact ⟨rfl, bnext (bnextA (Below.refl _ _) _) hbel⟩

theorem tput_bad2 (s d : UInt32) (a b : UInt16) (q k : UInt32) (r f : UInt8) (z u : UInt16) (A1 A2 : Option Addr) (n1 c1 n2 c2 : Nat) (hn1 : n1 ≤ 1000000000) (hn2 : n2 ≤ 1000000000) (w : World) (h1 : r.toNat ≤ 15) (h2 : n1 ≤ 40) (h3 : n1 % 4 ≠ 0) :
    Calls Try.prog 35 #[.int .u32 (s.toNat : Int), .int .u32 (d.toNat : Int), .agg #[.int .u16 (a.toNat : Int), .int .u16 (b.toNat : Int), .int .u32 (q.toNat : Int), .int .u32 (k.toNat : Int), .int .u8 (r.toNat : Int), .int .u8 (f.toNat : Int), .int .u16 (z.toNat : Int), .int .u16 (u.toNat : Int), .slice A1 n1 c1, .slice A2 n2 c2]] w fun e w' => e = .returned (.tuple #[.slice none 0 0, .int .i64 2]) ∧ Below w.heap.size w w' := by
  have hc := fun W => Lib.hid (tcheck_bad2 a b q k r f z u A1 A2 n1 c1 n2 c2 hn1 hn2 W h1 h2 h3)
  clear h1 h2 h3
  go_enter Try.func35, Try.ntmps35
  go_wp2_with fail
  refine (hc _).out.mono ?_
  rintro e w1 ⟨rfl, hbel⟩
  go_wp2_with fail
  go_ret2
  exact ⟨rfl, bnext (bnextA (Below.refl _ _) _) hbel⟩

theorem rtput_bad2 (s d : UInt32) (a b : UInt16) (q k : UInt32) (r f : UInt8) (z u : UInt16) (A1 A2 : Option Addr) (n1 c1 n2 c2 : Nat) (hn1 : n1 ≤ 1000000000) (hn2 : n2 ≤ 1000000000) (w : World) (h1 : r.toNat ≤ 15) (h2 : n1 ≤ 40) (h3 : n1 % 4 ≠ 0) :
    Calls Try.prog 36 #[.int .u32 (s.toNat : Int), .int .u32 (d.toNat : Int), .agg #[.int .u16 (a.toNat : Int), .int .u16 (b.toNat : Int), .int .u32 (q.toNat : Int), .int .u32 (k.toNat : Int), .int .u8 (r.toNat : Int), .int .u8 (f.toNat : Int), .int .u16 (z.toNat : Int), .int .u16 (u.toNat : Int), .slice A1 n1 c1, .slice A2 n2 c2]] w fun e w' => e = .returned (.tuple #[.slice none 0 0, .int .i64 2]) ∧ Below w.heap.size w w' := by
  have hc := fun W => Lib.hid (rtmay_bad2 a b q k r f z u A1 A2 n1 c1 n2 c2 hn1 hn2 W h1 h2 h3)
  clear h1 h2 h3
  go_enter Try.func36, Try.ntmps36
  go_wp2_with fail
  refine (hc _).out.mono ?_
  rintro e w1 ⟨rfl, hbel⟩
  go_wp2_with fail
  go_ret2
  exact ⟨rfl, bnext (bnextA (Below.refl _ _) _) hbel⟩

theorem tput_bad3 (s d : UInt32) (a b : UInt16) (q k : UInt32) (r f : UInt8) (z u : UInt16) (A1 A2 : Option Addr) (n1 c1 n2 c2 : Nat) (hn1 : n1 ≤ 1000000000) (hn2 : n2 ≤ 1000000000) (w : World) (h1 : r.toNat ≤ 15) (h2 : n1 ≤ 40) (h3 : n1 % 4 = 0) (h4 : 65535 < 20 + n1 + n2) :
    Calls Try.prog 35 #[.int .u32 (s.toNat : Int), .int .u32 (d.toNat : Int), .agg #[.int .u16 (a.toNat : Int), .int .u16 (b.toNat : Int), .int .u32 (q.toNat : Int), .int .u32 (k.toNat : Int), .int .u8 (r.toNat : Int), .int .u8 (f.toNat : Int), .int .u16 (z.toNat : Int), .int .u16 (u.toNat : Int), .slice A1 n1 c1, .slice A2 n2 c2]] w fun e w' => e = .returned (.tuple #[.slice none 0 0, .int .i64 2]) ∧ Below w.heap.size w w' := by
  have hc := fun W => Lib.hid (tcheck_bad3 a b q k r f z u A1 A2 n1 c1 n2 c2 hn1 hn2 W h1 h2 h3 h4)
  clear h1 h2 h3 h4
  go_enter Try.func35, Try.ntmps35
  go_wp2_with fail
  refine (hc _).out.mono ?_
  rintro e w1 ⟨rfl, hbel⟩
  go_wp2_with fail
  go_ret2
  exact ⟨rfl, bnext (bnextA (Below.refl _ _) _) hbel⟩

theorem rtput_bad3 (s d : UInt32) (a b : UInt16) (q k : UInt32) (r f : UInt8) (z u : UInt16) (A1 A2 : Option Addr) (n1 c1 n2 c2 : Nat) (hn1 : n1 ≤ 1000000000) (hn2 : n2 ≤ 1000000000) (w : World) (h1 : r.toNat ≤ 15) (h2 : n1 ≤ 40) (h3 : n1 % 4 = 0) (h4 : 65535 < 20 + n1 + n2) :
    Calls Try.prog 36 #[.int .u32 (s.toNat : Int), .int .u32 (d.toNat : Int), .agg #[.int .u16 (a.toNat : Int), .int .u16 (b.toNat : Int), .int .u32 (q.toNat : Int), .int .u32 (k.toNat : Int), .int .u8 (r.toNat : Int), .int .u8 (f.toNat : Int), .int .u16 (z.toNat : Int), .int .u16 (u.toNat : Int), .slice A1 n1 c1, .slice A2 n2 c2]] w fun e w' => e = .returned (.tuple #[.slice none 0 0, .int .i64 2]) ∧ Below w.heap.size w w' := by
  have hc := fun W => Lib.hid (rtmay_bad3 a b q k r f z u A1 A2 n1 c1 n2 c2 hn1 hn2 W h1 h2 h3 h4)
  clear h1 h2 h3 h4
  go_enter Try.func36, Try.ntmps36
  go_wp2_with fail
  refine (hc _).out.mono ?_
  rintro e w1 ⟨rfl, hbel⟩
  go_wp2_with fail
  go_ret2
  exact ⟨rfl, bnext (bnextA (Below.refl _ _) _) hbel⟩

set_option maxHeartbeats 4000000 in
theorem tput_ok (s d : UInt32) (a b : UInt16) (q k : UInt32) (r f : UInt8) (z u : UInt16) (A1 A2 : Option Addr) (c1 c2 : Nat) (os xs : List UInt8) (w : World) (ho : Rd bv w w.heap.size A1 c1 os) (hx : Rd bv w w.heap.size A2 c2 xs) (h1 : r.toNat ≤ 15) (h2 : os.length ≤ 40) (h3 : os.length % 4 = 0) (h4 : 20 + os.length + xs.length ≤ 65535) (h : UInt8) (hh : h.toNat = (5 + os.length / 4) * 16 + r.toNat) (N : Nat) (hN : onesN (uh s d 6 (20 + os.length + xs.length) ++ tb a b q k h f z u 0 os xs) = N) :
    Calls Try.prog 35 #[.int .u32 (s.toNat : Int), .int .u32 (d.toNat : Int), .agg #[.int .u16 (a.toNat : Int), .int .u16 (b.toNat : Int), .int .u32 (q.toNat : Int), .int .u32 (k.toNat : Int), .int .u8 (r.toNat : Int), .int .u8 (f.toNat : Int), .int .u16 (z.toNat : Int), .int .u16 (u.toNat : Int), .slice A1 os.length c1, .slice A2 xs.length c2]] w fun e w' => ∃ L A' c', e = .returned (.tuple #[.slice A' L.length c', .int .i64 0]) ∧ Hid (L = tb a b q k h f z u (65535 - N) os xs) ∧ Rd bv w' w'.heap.size A' c' L ∧ Below w.heap.size w w' := by
  obtain ⟨W1, hW1⟩ : ∃ W1, W1 = w.alloc (.cells #[.int .u16 (a.toNat : Int), .int .u16 (b.toNat : Int), .int .u32 (q.toNat : Int), .int .u32 (k.toNat : Int), .int .u8 (r.toNat : Int), .int .u8 (f.toNat : Int), .int .u16 (z.toNat : Int), .int .u16 (u.toNat : Int), .slice A1 os.length c1, .slice A2 xs.length c2] 53) := ⟨_, rfl⟩
  have hB1 : Below w.heap.size w W1 := by subst hW1; exact bnextA (Below.refl _ _) _
  have hK1 : Blk W1 w.heap.size [.int .u16 (a.toNat : Int), .int .u16 (b.toNat : Int), .int .u32 (q.toNat : Int), .int .u32 (k.toNat : Int), .int .u8 (r.toNat : Int), .int .u8 (f.toNat : Int), .int .u16 (z.toNat : Int), .int .u16 (u.toNat : Int), .slice A1 os.length c1, .slice A2 xs.length c2] 53 := by subst hW1; exact Blk.new _ _ _
  have HS : ∀ W, Below W1.heap.size W1 W → (W.cell? ⟨w.heap.size, 0, none⟩ = some (.int .u16 (a.toNat : Int)) ∧ W.cell? ⟨w.heap.size, 1, none⟩ = some (.int .u16 (b.toNat : Int)) ∧ W.cell? ⟨w.heap.size, 2, none⟩ = some (.int .u32 (q.toNat : Int)) ∧ W.cell? ⟨w.heap.size, 3, none⟩ = some (.int .u32 (k.toNat : Int)) ∧ W.cell? ⟨w.heap.size, 4, none⟩ = some (.int .u8 (r.toNat : Int)) ∧ W.cell? ⟨w.heap.size, 5, none⟩ = some (.int .u8 (f.toNat : Int)) ∧ W.cell? ⟨w.heap.size, 6, none⟩ = some (.int .u16 (z.toNat : Int)) ∧ W.cell? ⟨w.heap.size, 7, none⟩ = some (.int .u16 (u.toNat : Int)) ∧ W.cell? ⟨w.heap.size, 8, none⟩ = some (.slice A1 os.length c1) ∧ W.cell? ⟨w.heap.size, 9, none⟩ = some (.slice A2 xs.length c2)) := by
    intro W h
    obtain ⟨p0, p1, p2, p3, p4, p5, p6, p7, p8, p9, -⟩ := (hK1.next h).get10
    exact ⟨p0, p1, p2, p3, p4, p5, p6, p7, p8, p9⟩
  replace ho := ho.next hB1
  replace hx := hx.next hB1
  have hle : N ≤ 65535 := by rw [← hN]; exact onesN_le _
  have HN := fun (_ : Unit) => Lib.hid hN
  obtain ⟨m, hm, hm15⟩ : ∃ m : Nat, (20 + (os.length : Int)) / 4 = (m : Int) ∧ m = 5 + os.length / 4 := ⟨5 + os.length / 4, by omega, rfl⟩
  obtain ⟨h', hh', hor⟩ := th_of m r.toNat (by omega) h1
  obtain rfl : h = h' := UInt8.toNat_inj.1 (by rw [hh, hh', hm15])
  have HOR := fun (_ : Unit) => hor
  have HW : ∀ _ : Unit, IntKind.u8.wrap ((m : Int) * 16) = (m : Int) * 16 := fun _ => by rw [IntKind.wrap_u8]; omega
  have HM := Lib.hid hm
  have HC := fun W => Lib.hid (tcheck_ok a b q k r f z u A1 A2 os.length c1 xs.length c2 W h1 h2 h3 h4)
  have hm16 : m ≤ 15 := by omega
  clear hN hor hm hh hh' hm15
  go_enter Try.func35, Try.ntmps35
  go_wp2_with fail
  rw [← hW1]
  clear hW1
  refine (HC _).out.mono ?_
  rintro e w0 ⟨rfl, hbel⟩
  obtain ⟨p0, p1, p2, p3, p4, p5, p6, p7, p8, p9⟩ := HS _ hbel
  replace hB1 := bnext hB1 hbel
  replace ho := ho.next hbel
  replace hx := hx.next hbel
  replace hK1 := hK1.next hbel
  clear hbel HC HS
  go_wp2_with fail
  rw [HM.out]
  clear p0 p1 p2 p3 p4 p5 p6 p7 p8 p9
  have HS : ∀ W, Below w0.heap.size w0 W → (W.cell? ⟨w.heap.size, 0, none⟩ = some (.int .u16 (a.toNat : Int)) ∧ W.cell? ⟨w.heap.size, 1, none⟩ = some (.int .u16 (b.toNat : Int)) ∧ W.cell? ⟨w.heap.size, 2, none⟩ = some (.int .u32 (q.toNat : Int)) ∧ W.cell? ⟨w.heap.size, 3, none⟩ = some (.int .u32 (k.toNat : Int)) ∧ W.cell? ⟨w.heap.size, 4, none⟩ = some (.int .u8 (r.toNat : Int)) ∧ W.cell? ⟨w.heap.size, 5, none⟩ = some (.int .u8 (f.toNat : Int)) ∧ W.cell? ⟨w.heap.size, 6, none⟩ = some (.int .u16 (z.toNat : Int)) ∧ W.cell? ⟨w.heap.size, 7, none⟩ = some (.int .u16 (u.toNat : Int)) ∧ W.cell? ⟨w.heap.size, 8, none⟩ = some (.slice A1 os.length c1) ∧ W.cell? ⟨w.heap.size, 9, none⟩ = some (.slice A2 xs.length c2)) := by
    intro W h
    obtain ⟨p0, p1, p2, p3, p4, p5, p6, p7, p8, p9, -⟩ := (hK1.next h).get10
    exact ⟨p0, p1, p2, p3, p4, p5, p6, p7, p8, p9⟩
  refine region_put (by kernel_rfl) (by kernel_rfl) (by kernel_rfl) 67 rfl (by kernel_rfl) w0 (fun i v W => match i with
      | 0 => v = .pointer (some ⟨w.heap.size, 0, none⟩)
      | 1 => v = .int .u16 (a.toNat : Int)
      | 2 => v = .pointer (some ⟨w.heap.size, 1, none⟩)
      | 3 => v = .int .u16 (b.toNat : Int)
      | 4 => ∃ A, v = .slice A 2 2 ∧ Rd hv W W.heap.size A 2 [a, b]
      | 5 => ∃ L A c, v = .slice A L.length c ∧ Hid (L = puts16 [a, b]) ∧ Rd bv W W.heap.size A c L
      | 6 => v = .pointer (some ⟨w.heap.size, 2, none⟩)
      | 7 => v = .int .u32 (q.toNat : Int)
      | 8 => v = .pointer (some ⟨w.heap.size, 3, none⟩)
      | 9 => v = .int .u32 (k.toNat : Int)
      | 10 => ∃ A, v = .slice A 2 2 ∧ Rd wv W W.heap.size A 2 [q, k]
      | 11 => ∃ L A c, v = .slice A L.length c ∧ Hid (L = puts32 [q, k]) ∧ Rd bv W W.heap.size A c L
      | 12 => v = .int .u8 (m : Int)
      | 13 => v = .int .u8 ((m : Int) * 16)
      | 14 => v = .pointer (some ⟨w.heap.size, 4, none⟩)
      | 15 => v = .int .u8 (r.toNat : Int)
      | 16 => v = .int .u8 (h.toNat : Int)
      | 17 => v = .pointer (some ⟨w.heap.size, 5, none⟩)
      | 18 => v = .int .u8 (f.toNat : Int)
      | 19 => ∃ A, v = .slice A 2 2 ∧ Rd bv W W.heap.size A 2 [h, f]
      | 20 => v = .pointer (some ⟨w.heap.size, 6, none⟩)
      | 21 => v = .int .u16 (z.toNat : Int)
      | 22 => v = .pointer (some ⟨w.heap.size, 7, none⟩)
      | 23 => v = .int .u16 (u.toNat : Int)
      | 24 => ∃ A, v = .slice A 3 3 ∧ Rd hv W W.heap.size A 3 [z, 0, u]
      | 25 => ∃ L A c, v = .slice A L.length c ∧ Hid (L = puts16 [z, 0, u]) ∧ Rd bv W W.heap.size A c L
      | 26 => v = .pointer (some ⟨w.heap.size, 8, none⟩)
      | 27 => v = .slice A1 os.length c1
      | 28 => v = .pointer (some ⟨w.heap.size, 9, none⟩)
      | 29 => v = .slice A2 xs.length c2
      | 30 => ∃ g ls, v = .slice (some ⟨g, 0, none⟩) 6 6 ∧ Hid (ls.flatten = tb a b q k h f z u 0 os xs) ∧ Hid (ls.length = 6) ∧ g < W.heap.size ∧ ∃ B, B ≤ W.heap.size ∧ Parts W B g ls
      | 31 => ∃ L A c, v = .slice A L.length c ∧ Hid (L = tb a b q k h f z u 0 os xs) ∧ Rd bv W W.heap.size A c L
      | 32 => ∃ L A c, v = .slice A L.length c ∧ Hid (L = tb a b q k h f z u 0 os xs) ∧ Rd bv W W.heap.size A c L
      | _ => True) (Below.refl _ _) ?_ ?_ ?_
  · intro i v W W' h hb
    match i, h with
    | 0, h => exact h
    | 1, h => exact h
    | 2, h => exact h
    | 3, h => exact h
    | 4, h => obtain ⟨A, h1, h2⟩ := h; exact ⟨A, h1, h2.next hb⟩
    | 5, h => obtain ⟨L, A, c, h1, h2, h3⟩ := h; exact ⟨L, A, c, h1, h2, h3.next hb⟩
    | 6, h => exact h
    | 7, h => exact h
    | 8, h => exact h
    | 9, h => exact h
    | 10, h => obtain ⟨A, h1, h2⟩ := h; exact ⟨A, h1, h2.next hb⟩
    | 11, h => obtain ⟨L, A, c, h1, h2, h3⟩ := h; exact ⟨L, A, c, h1, h2, h3.next hb⟩
    | 12, h => exact h
    | 13, h => exact h
    | 14, h => exact h
    | 15, h => exact h
    | 16, h => exact h
    | 17, h => exact h
    | 18, h => exact h
    | 19, h => obtain ⟨A, h1, h2⟩ := h; exact ⟨A, h1, h2.next hb⟩
    | 20, h => exact h
    | 21, h => exact h
    | 22, h => exact h
    | 23, h => exact h
    | 24, h => obtain ⟨A, h1, h2⟩ := h; exact ⟨A, h1, h2.next hb⟩
    | 25, h => obtain ⟨L, A, c, h1, h2, h3⟩ := h; exact ⟨L, A, c, h1, h2, h3.next hb⟩
    | 26, h => exact h
    | 27, h => exact h
    | 28, h => exact h
    | 29, h => exact h
    | 30, h => obtain ⟨g, ls, h1, h2, h3, h4, B, h5, h6⟩ := h; exact ⟨g, ls, h1, h2, h3, Nat.lt_of_lt_of_le h4 hb.size, B, Nat.le_trans h5 hb.size, h6.next h4 h5 hb⟩
    | 31, h => obtain ⟨L, A, c, h1, h2, h3⟩ := h; exact ⟨L, A, c, h1, h2, h3.next hb⟩
    | 32, h => obtain ⟨L, A, c, h1, h2, h3⟩ := h; exact ⟨L, A, c, h1, h2, h3.next hb⟩
    | _ + 33, _ => trivial
  · intro i o uu W hoo hVW hd
    rcases i with _|_|_|_|_|_|_|_|_|_|_|_|_|_|_|_|_|_|_|_|_|_|_|_|_|_|_|_|_|_|_|_|_|i
    · obtain rfl := Option.some.inj hoo
      refine .inl ⟨wanted_none rfl, ?_⟩
      generalize hev : Act.eval _ = ev
      have ec : ∀ c, ev (.const c) = c := fun c => by rw [← hev]; rfl
      have e5 : ev (.tmp 5) = .pointer (some ⟨w.heap.size, 0, none⟩) := by rw [← hev]; exact eval_old (by kernel_rfl) 67 rfl (by decide) rfl
      clear hev hd
      exact .inl ⟨_, W, by go_simp, rfl, Below.refl _ _⟩
    · obtain rfl := Option.some.inj hoo
      have q0 : uu 0 = .pointer (some ⟨w.heap.size, 0, none⟩) := hd 0 (by kernel_rfl)
      refine .inl ⟨wanted_none rfl, ?_⟩
      generalize hev : Act.eval _ = ev
      have ec : ∀ c, ev (.const c) = c := fun c => by rw [← hev]; rfl
      have e22 : ev (.tmp 22) = .pointer (some ⟨w.heap.size, 0, none⟩) := by rw [← hev]; exact (eval_put (by kernel_rfl) 67 rfl (by decide)).trans q0
      clear hev hd q0
      obtain ⟨cc0, cc1, cc2, cc3, cc4, cc5, cc6, cc7, cc8, cc9⟩ := HS W hVW
      exact .inl ⟨_, W, by go_simp, rfl, Below.refl _ _⟩
    · obtain rfl := Option.some.inj hoo
      refine .inl ⟨wanted_none rfl, ?_⟩
      generalize hev : Act.eval _ = ev
      have ec : ∀ c, ev (.const c) = c := fun c => by rw [← hev]; rfl
      have e5 : ev (.tmp 5) = .pointer (some ⟨w.heap.size, 0, none⟩) := by rw [← hev]; exact eval_old (by kernel_rfl) 67 rfl (by decide) rfl
      clear hev hd
      exact .inl ⟨_, W, by go_simp, rfl, Below.refl _ _⟩
    · obtain rfl := Option.some.inj hoo
      have q2 : uu 2 = .pointer (some ⟨w.heap.size, 1, none⟩) := hd 2 (by kernel_rfl)
      refine .inl ⟨wanted_none rfl, ?_⟩
      generalize hev : Act.eval _ = ev
      have ec : ∀ c, ev (.const c) = c := fun c => by rw [← hev]; rfl
      have e24 : ev (.tmp 24) = .pointer (some ⟨w.heap.size, 1, none⟩) := by rw [← hev]; exact (eval_put (by kernel_rfl) 67 rfl (by decide)).trans q2
      clear hev hd q2
      obtain ⟨cc0, cc1, cc2, cc3, cc4, cc5, cc6, cc7, cc8, cc9⟩ := HS W hVW
      exact .inl ⟨_, W, by go_simp, rfl, Below.refl _ _⟩
    · obtain rfl := Option.some.inj hoo
      have q1 : uu 1 = .int .u16 (a.toNat : Int) := hd 1 (by kernel_rfl)
      have q3 : uu 3 = .int .u16 (b.toNat : Int) := hd 3 (by kernel_rfl)
      refine .inl ⟨wanted_none rfl, ?_⟩
      generalize hev : Act.eval _ = ev
      have ec : ∀ c, ev (.const c) = c := fun c => by rw [← hev]; rfl
      have e23 : ev (.tmp 23) = .int .u16 (a.toNat : Int) := by rw [← hev]; exact (eval_put (by kernel_rfl) 67 rfl (by decide)).trans q1
      have e25 : ev (.tmp 25) = .int .u16 (b.toNat : Int) := by rw [← hev]; exact (eval_put (by kernel_rfl) 67 rfl (by decide)).trans q3
      clear hev hd q1 q3
      exact .inl ⟨_, W.alloc (.cells #[.int .u16 (a.toNat : Int), .int .u16 (b.toNat : Int)] 24), by go_simp, ⟨_, rfl, lit16_at W _ [a, b] rfl #[.int .u16 (a.toNat : Int), .int .u16 (b.toNat : Int)] (rfl) _ (by simp)⟩, bnextA (Below.refl _ _) _⟩
    · obtain rfl := Option.some.inj hoo
      obtain ⟨A4, q4, r4⟩ := hd 4 (by kernel_rfl)
      refine .inl ⟨wanted_none rfl, ?_⟩
      generalize hev : Act.eval _ = ev
      have ec : ∀ c, ev (.const c) = c := fun c => by rw [← hev]; rfl
      have ef : ∀ f, ev (.func f) = .func (.func f) #[] #[] := fun f => by rw [← hev]; rfl
      have e26 : ev (.tmp 26) = .slice A4 2 2 := by rw [← hev]; exact (eval_put (by kernel_rfl) 67 rfl (by decide)).trans q4
      clear hev hd q4
      exact .inr ⟨_, _, _, by go_simp, put16_nil A4 2 [a, b] W r4 (by simp), fun e w' he => by
        obtain ⟨L, A, c, rfl, HL, hr, hb⟩ := he
        exact ⟨_, rfl, ⟨L, A, c, rfl, HL, hr⟩, hb⟩⟩
    · obtain rfl := Option.some.inj hoo
      refine .inl ⟨wanted_none rfl, ?_⟩
      generalize hev : Act.eval _ = ev
      have ec : ∀ c, ev (.const c) = c := fun c => by rw [← hev]; rfl
      have e5 : ev (.tmp 5) = .pointer (some ⟨w.heap.size, 0, none⟩) := by rw [← hev]; exact eval_old (by kernel_rfl) 67 rfl (by decide) rfl
      clear hev hd
      exact .inl ⟨_, W, by go_simp, rfl, Below.refl _ _⟩
    · obtain rfl := Option.some.inj hoo
      have q6 : uu 6 = .pointer (some ⟨w.heap.size, 2, none⟩) := hd 6 (by kernel_rfl)
      refine .inl ⟨wanted_none rfl, ?_⟩
      generalize hev : Act.eval _ = ev
      have ec : ∀ c, ev (.const c) = c := fun c => by rw [← hev]; rfl
      have e28 : ev (.tmp 28) = .pointer (some ⟨w.heap.size, 2, none⟩) := by rw [← hev]; exact (eval_put (by kernel_rfl) 67 rfl (by decide)).trans q6
      clear hev hd q6
      obtain ⟨cc0, cc1, cc2, cc3, cc4, cc5, cc6, cc7, cc8, cc9⟩ := HS W hVW
      exact .inl ⟨_, W, by go_simp, rfl, Below.refl _ _⟩
    · obtain rfl := Option.some.inj hoo
      refine .inl ⟨wanted_none rfl, ?_⟩
      generalize hev : Act.eval _ = ev
      have ec : ∀ c, ev (.const c) = c := fun c => by rw [← hev]; rfl
      have e5 : ev (.tmp 5) = .pointer (some ⟨w.heap.size, 0, none⟩) := by rw [← hev]; exact eval_old (by kernel_rfl) 67 rfl (by decide) rfl
      clear hev hd
      exact .inl ⟨_, W, by go_simp, rfl, Below.refl _ _⟩
    · obtain rfl := Option.some.inj hoo
      have q8 : uu 8 = .pointer (some ⟨w.heap.size, 3, none⟩) := hd 8 (by kernel_rfl)
      refine .inl ⟨wanted_none rfl, ?_⟩
      generalize hev : Act.eval _ = ev
      have ec : ∀ c, ev (.const c) = c := fun c => by rw [← hev]; rfl
      have e30 : ev (.tmp 30) = .pointer (some ⟨w.heap.size, 3, none⟩) := by rw [← hev]; exact (eval_put (by kernel_rfl) 67 rfl (by decide)).trans q8
      clear hev hd q8
      obtain ⟨cc0, cc1, cc2, cc3, cc4, cc5, cc6, cc7, cc8, cc9⟩ := HS W hVW
      exact .inl ⟨_, W, by go_simp, rfl, Below.refl _ _⟩
    · obtain rfl := Option.some.inj hoo
      have q7 : uu 7 = .int .u32 (q.toNat : Int) := hd 7 (by kernel_rfl)
      have q9 : uu 9 = .int .u32 (k.toNat : Int) := hd 9 (by kernel_rfl)
      refine .inl ⟨wanted_none rfl, ?_⟩
      generalize hev : Act.eval _ = ev
      have ec : ∀ c, ev (.const c) = c := fun c => by rw [← hev]; rfl
      have e29 : ev (.tmp 29) = .int .u32 (q.toNat : Int) := by rw [← hev]; exact (eval_put (by kernel_rfl) 67 rfl (by decide)).trans q7
      have e31 : ev (.tmp 31) = .int .u32 (k.toNat : Int) := by rw [← hev]; exact (eval_put (by kernel_rfl) 67 rfl (by decide)).trans q9
      clear hev hd q7 q9
      exact .inl ⟨_, W.alloc (.cells #[.int .u32 (q.toNat : Int), .int .u32 (k.toNat : Int)] 25), by go_simp, ⟨_, rfl, lit32_at W _ [q, k] rfl #[.int .u32 (q.toNat : Int), .int .u32 (k.toNat : Int)] (rfl) _ (by simp)⟩, bnextA (Below.refl _ _) _⟩
    · obtain rfl := Option.some.inj hoo
      obtain ⟨A10, q10, r10⟩ := hd 10 (by kernel_rfl)
      refine .inl ⟨wanted_none rfl, ?_⟩
      generalize hev : Act.eval _ = ev
      have ec : ∀ c, ev (.const c) = c := fun c => by rw [← hev]; rfl
      have ef : ∀ f, ev (.func f) = .func (.func f) #[] #[] := fun f => by rw [← hev]; rfl
      have e32 : ev (.tmp 32) = .slice A10 2 2 := by rw [← hev]; exact (eval_put (by kernel_rfl) 67 rfl (by decide)).trans q10
      clear hev hd q10
      exact .inr ⟨_, _, _, by go_simp, put32_nil A10 2 [q, k] W r10 (by simp), fun e w' he => by
        obtain ⟨L, A, c, rfl, HL, hr, hb⟩ := he
        exact ⟨_, rfl, ⟨L, A, c, rfl, HL, hr⟩, hb⟩⟩
    · obtain rfl := Option.some.inj hoo
      refine .inl ⟨wanted_none rfl, ?_⟩
      generalize hev : Act.eval _ = ev
      have ec : ∀ c, ev (.const c) = c := fun c => by rw [← hev]; rfl
      have e9 : ev (.tmp 9) = .int .u8 (m : Int) := by rw [← hev]; exact eval_old (by kernel_rfl) 67 rfl (by decide) rfl
      clear hev hd
      exact .inl ⟨_, W, by go_simp, rfl, Below.refl _ _⟩
    · obtain rfl := Option.some.inj hoo
      have q12 : uu 12 = .int .u8 (m : Int) := hd 12 (by kernel_rfl)
      refine .inl ⟨wanted_none rfl, ?_⟩
      generalize hev : Act.eval _ = ev
      have ec : ∀ c, ev (.const c) = c := fun c => by rw [← hev]; rfl
      have e34 : ev (.tmp 34) = .int .u8 (m : Int) := by rw [← hev]; exact (eval_put (by kernel_rfl) 67 rfl (by decide)).trans q12
      clear hev hd q12
      have hw := HW ()
      exact .inl ⟨_, W, by go_simp, rfl, Below.refl _ _⟩
    · obtain rfl := Option.some.inj hoo
      refine .inl ⟨wanted_none rfl, ?_⟩
      generalize hev : Act.eval _ = ev
      have ec : ∀ c, ev (.const c) = c := fun c => by rw [← hev]; rfl
      have e5 : ev (.tmp 5) = .pointer (some ⟨w.heap.size, 0, none⟩) := by rw [← hev]; exact eval_old (by kernel_rfl) 67 rfl (by decide) rfl
      clear hev hd
      exact .inl ⟨_, W, by go_simp, rfl, Below.refl _ _⟩
    · obtain rfl := Option.some.inj hoo
      have q14 : uu 14 = .pointer (some ⟨w.heap.size, 4, none⟩) := hd 14 (by kernel_rfl)
      refine .inl ⟨wanted_none rfl, ?_⟩
      generalize hev : Act.eval _ = ev
      have ec : ∀ c, ev (.const c) = c := fun c => by rw [← hev]; rfl
      have e36 : ev (.tmp 36) = .pointer (some ⟨w.heap.size, 4, none⟩) := by rw [← hev]; exact (eval_put (by kernel_rfl) 67 rfl (by decide)).trans q14
      clear hev hd q14
      obtain ⟨cc0, cc1, cc2, cc3, cc4, cc5, cc6, cc7, cc8, cc9⟩ := HS W hVW
      exact .inl ⟨_, W, by go_simp, rfl, Below.refl _ _⟩
    · obtain rfl := Option.some.inj hoo
      have q13 : uu 13 = .int .u8 ((m : Int) * 16) := hd 13 (by kernel_rfl)
      have q15 : uu 15 = .int .u8 (r.toNat : Int) := hd 15 (by kernel_rfl)
      refine .inl ⟨wanted_none rfl, ?_⟩
      generalize hev : Act.eval _ = ev
      have ec : ∀ c, ev (.const c) = c := fun c => by rw [← hev]; rfl
      have e35 : ev (.tmp 35) = .int .u8 ((m : Int) * 16) := by rw [← hev]; exact (eval_put (by kernel_rfl) 67 rfl (by decide)).trans q13
      have e37 : ev (.tmp 37) = .int .u8 (r.toNat : Int) := by rw [← hev]; exact (eval_put (by kernel_rfl) 67 rfl (by decide)).trans q15
      clear hev hd q13 q15
      have hor := HOR ()
      exact .inl ⟨_, W, by go_simp, rfl, Below.refl _ _⟩
    · obtain rfl := Option.some.inj hoo
      refine .inl ⟨wanted_none rfl, ?_⟩
      generalize hev : Act.eval _ = ev
      have ec : ∀ c, ev (.const c) = c := fun c => by rw [← hev]; rfl
      have e5 : ev (.tmp 5) = .pointer (some ⟨w.heap.size, 0, none⟩) := by rw [← hev]; exact eval_old (by kernel_rfl) 67 rfl (by decide) rfl
      clear hev hd
      exact .inl ⟨_, W, by go_simp, rfl, Below.refl _ _⟩
    · obtain rfl := Option.some.inj hoo
      have q17 : uu 17 = .pointer (some ⟨w.heap.size, 5, none⟩) := hd 17 (by kernel_rfl)
      refine .inl ⟨wanted_none rfl, ?_⟩
      generalize hev : Act.eval _ = ev
      have ec : ∀ c, ev (.const c) = c := fun c => by rw [← hev]; rfl
      have e39 : ev (.tmp 39) = .pointer (some ⟨w.heap.size, 5, none⟩) := by rw [← hev]; exact (eval_put (by kernel_rfl) 67 rfl (by decide)).trans q17
      clear hev hd q17
      obtain ⟨cc0, cc1, cc2, cc3, cc4, cc5, cc6, cc7, cc8, cc9⟩ := HS W hVW
      exact .inl ⟨_, W, by go_simp, rfl, Below.refl _ _⟩
    · obtain rfl := Option.some.inj hoo
      have q16 : uu 16 = .int .u8 (h.toNat : Int) := hd 16 (by kernel_rfl)
      have q18 : uu 18 = .int .u8 (f.toNat : Int) := hd 18 (by kernel_rfl)
      refine .inl ⟨wanted_none rfl, ?_⟩
      generalize hev : Act.eval _ = ev
      have ec : ∀ c, ev (.const c) = c := fun c => by rw [← hev]; rfl
      have e38 : ev (.tmp 38) = .int .u8 (h.toNat : Int) := by rw [← hev]; exact (eval_put (by kernel_rfl) 67 rfl (by decide)).trans q16
      have e40 : ev (.tmp 40) = .int .u8 (f.toNat : Int) := by rw [← hev]; exact (eval_put (by kernel_rfl) 67 rfl (by decide)).trans q18
      clear hev hd q16 q18
      exact .inl ⟨_, W.alloc (.cells #[.int .u8 (h.toNat : Int), .int .u8 (f.toNat : Int)] 5), by go_simp, ⟨_, rfl, lit_at W _ [h, f] rfl #[.int .u8 (h.toNat : Int), .int .u8 (f.toNat : Int)] (rfl) _ (by simp)⟩, bnextA (Below.refl _ _) _⟩
    · obtain rfl := Option.some.inj hoo
      refine .inl ⟨wanted_none rfl, ?_⟩
      generalize hev : Act.eval _ = ev
      have ec : ∀ c, ev (.const c) = c := fun c => by rw [← hev]; rfl
      have e5 : ev (.tmp 5) = .pointer (some ⟨w.heap.size, 0, none⟩) := by rw [← hev]; exact eval_old (by kernel_rfl) 67 rfl (by decide) rfl
      clear hev hd
      exact .inl ⟨_, W, by go_simp, rfl, Below.refl _ _⟩
    · obtain rfl := Option.some.inj hoo
      have q20 : uu 20 = .pointer (some ⟨w.heap.size, 6, none⟩) := hd 20 (by kernel_rfl)
      refine .inl ⟨wanted_none rfl, ?_⟩
      generalize hev : Act.eval _ = ev
      have ec : ∀ c, ev (.const c) = c := fun c => by rw [← hev]; rfl
      have e42 : ev (.tmp 42) = .pointer (some ⟨w.heap.size, 6, none⟩) := by rw [← hev]; exact (eval_put (by kernel_rfl) 67 rfl (by decide)).trans q20
      clear hev hd q20
      obtain ⟨cc0, cc1, cc2, cc3, cc4, cc5, cc6, cc7, cc8, cc9⟩ := HS W hVW
      exact .inl ⟨_, W, by go_simp, rfl, Below.refl _ _⟩
    · obtain rfl := Option.some.inj hoo
      refine .inl ⟨wanted_none rfl, ?_⟩
      generalize hev : Act.eval _ = ev
      have ec : ∀ c, ev (.const c) = c := fun c => by rw [← hev]; rfl
      have e5 : ev (.tmp 5) = .pointer (some ⟨w.heap.size, 0, none⟩) := by rw [← hev]; exact eval_old (by kernel_rfl) 67 rfl (by decide) rfl
      clear hev hd
      exact .inl ⟨_, W, by go_simp, rfl, Below.refl _ _⟩
    · obtain rfl := Option.some.inj hoo
      have q22 : uu 22 = .pointer (some ⟨w.heap.size, 7, none⟩) := hd 22 (by kernel_rfl)
      refine .inl ⟨wanted_none rfl, ?_⟩
      generalize hev : Act.eval _ = ev
      have ec : ∀ c, ev (.const c) = c := fun c => by rw [← hev]; rfl
      have e44 : ev (.tmp 44) = .pointer (some ⟨w.heap.size, 7, none⟩) := by rw [← hev]; exact (eval_put (by kernel_rfl) 67 rfl (by decide)).trans q22
      clear hev hd q22
      obtain ⟨cc0, cc1, cc2, cc3, cc4, cc5, cc6, cc7, cc8, cc9⟩ := HS W hVW
      exact .inl ⟨_, W, by go_simp, rfl, Below.refl _ _⟩
    · obtain rfl := Option.some.inj hoo
      have q21 : uu 21 = .int .u16 (z.toNat : Int) := hd 21 (by kernel_rfl)
      have q23 : uu 23 = .int .u16 (u.toNat : Int) := hd 23 (by kernel_rfl)
      refine .inl ⟨wanted_none rfl, ?_⟩
      generalize hev : Act.eval _ = ev
      have ec : ∀ c, ev (.const c) = c := fun c => by rw [← hev]; rfl
      have e43 : ev (.tmp 43) = .int .u16 (z.toNat : Int) := by rw [← hev]; exact (eval_put (by kernel_rfl) 67 rfl (by decide)).trans q21
      have e45 : ev (.tmp 45) = .int .u16 (u.toNat : Int) := by rw [← hev]; exact (eval_put (by kernel_rfl) 67 rfl (by decide)).trans q23
      clear hev hd q21 q23
      exact .inl ⟨_, W.alloc (.cells #[.int .u16 (z.toNat : Int), .int .u16 0, .int .u16 (u.toNat : Int)] 24), by go_simp, ⟨_, rfl, lit16_at W _ [z, 0, u] rfl #[.int .u16 (z.toNat : Int), .int .u16 0, .int .u16 (u.toNat : Int)] (rfl) _ (by simp)⟩, bnextA (Below.refl _ _) _⟩
    · obtain rfl := Option.some.inj hoo
      obtain ⟨A24, q24, r24⟩ := hd 24 (by kernel_rfl)
      refine .inl ⟨wanted_none rfl, ?_⟩
      generalize hev : Act.eval _ = ev
      have ec : ∀ c, ev (.const c) = c := fun c => by rw [← hev]; rfl
      have ef : ∀ f, ev (.func f) = .func (.func f) #[] #[] := fun f => by rw [← hev]; rfl
      have e46 : ev (.tmp 46) = .slice A24 3 3 := by rw [← hev]; exact (eval_put (by kernel_rfl) 67 rfl (by decide)).trans q24
      clear hev hd q24
      exact .inr ⟨_, _, _, by go_simp, put16_nil A24 3 [z, 0, u] W r24 (by simp), fun e w' he => by
        obtain ⟨L, A, c, rfl, HL, hr, hb⟩ := he
        exact ⟨_, rfl, ⟨L, A, c, rfl, HL, hr⟩, hb⟩⟩
    · obtain rfl := Option.some.inj hoo
      refine .inl ⟨wanted_none rfl, ?_⟩
      generalize hev : Act.eval _ = ev
      have ec : ∀ c, ev (.const c) = c := fun c => by rw [← hev]; rfl
      have e5 : ev (.tmp 5) = .pointer (some ⟨w.heap.size, 0, none⟩) := by rw [← hev]; exact eval_old (by kernel_rfl) 67 rfl (by decide) rfl
      clear hev hd
      exact .inl ⟨_, W, by go_simp, rfl, Below.refl _ _⟩
    · obtain rfl := Option.some.inj hoo
      have q26 : uu 26 = .pointer (some ⟨w.heap.size, 8, none⟩) := hd 26 (by kernel_rfl)
      refine .inl ⟨wanted_none rfl, ?_⟩
      generalize hev : Act.eval _ = ev
      have ec : ∀ c, ev (.const c) = c := fun c => by rw [← hev]; rfl
      have e48 : ev (.tmp 48) = .pointer (some ⟨w.heap.size, 8, none⟩) := by rw [← hev]; exact (eval_put (by kernel_rfl) 67 rfl (by decide)).trans q26
      clear hev hd q26
      obtain ⟨cc0, cc1, cc2, cc3, cc4, cc5, cc6, cc7, cc8, cc9⟩ := HS W hVW
      exact .inl ⟨_, W, by go_simp, rfl, Below.refl _ _⟩
    · obtain rfl := Option.some.inj hoo
      refine .inl ⟨wanted_none rfl, ?_⟩
      generalize hev : Act.eval _ = ev
      have ec : ∀ c, ev (.const c) = c := fun c => by rw [← hev]; rfl
      have e5 : ev (.tmp 5) = .pointer (some ⟨w.heap.size, 0, none⟩) := by rw [← hev]; exact eval_old (by kernel_rfl) 67 rfl (by decide) rfl
      clear hev hd
      exact .inl ⟨_, W, by go_simp, rfl, Below.refl _ _⟩
    · obtain rfl := Option.some.inj hoo
      have q28 : uu 28 = .pointer (some ⟨w.heap.size, 9, none⟩) := hd 28 (by kernel_rfl)
      refine .inl ⟨wanted_none rfl, ?_⟩
      generalize hev : Act.eval _ = ev
      have ec : ∀ c, ev (.const c) = c := fun c => by rw [← hev]; rfl
      have e50 : ev (.tmp 50) = .pointer (some ⟨w.heap.size, 9, none⟩) := by rw [← hev]; exact (eval_put (by kernel_rfl) 67 rfl (by decide)).trans q28
      clear hev hd q28
      obtain ⟨cc0, cc1, cc2, cc3, cc4, cc5, cc6, cc7, cc8, cc9⟩ := HS W hVW
      exact .inl ⟨_, W, by go_simp, rfl, Below.refl _ _⟩
    · obtain rfl := Option.some.inj hoo
      obtain ⟨L5, A5, c5, q5, HL5, r5⟩ := hd 5 (by kernel_rfl)
      obtain ⟨L11, A11, c11, q11, HL11, r11⟩ := hd 11 (by kernel_rfl)
      obtain ⟨A19, q19, r19⟩ := hd 19 (by kernel_rfl)
      obtain ⟨L25, A25, c25, q25, HL25, r25⟩ := hd 25 (by kernel_rfl)
      have q27 : uu 27 = .slice A1 os.length c1 := hd 27 (by kernel_rfl)
      have q29 : uu 29 = .slice A2 xs.length c2 := hd 29 (by kernel_rfl)
      refine .inl ⟨wanted_none rfl, ?_⟩
      generalize hev : Act.eval _ = ev
      have ec : ∀ c, ev (.const c) = c := fun c => by rw [← hev]; rfl
      have e27 : ev (.tmp 27) = .slice A5 L5.length c5 := by rw [← hev]; exact (eval_put (by kernel_rfl) 67 rfl (by decide)).trans q5
      have e33 : ev (.tmp 33) = .slice A11 L11.length c11 := by rw [← hev]; exact (eval_put (by kernel_rfl) 67 rfl (by decide)).trans q11
      have e41 : ev (.tmp 41) = .slice A19 2 2 := by rw [← hev]; exact (eval_put (by kernel_rfl) 67 rfl (by decide)).trans q19
      have e47 : ev (.tmp 47) = .slice A25 L25.length c25 := by rw [← hev]; exact (eval_put (by kernel_rfl) 67 rfl (by decide)).trans q25
      have e49 : ev (.tmp 49) = .slice A1 os.length c1 := by rw [← hev]; exact (eval_put (by kernel_rfl) 67 rfl (by decide)).trans q27
      have e51 : ev (.tmp 51) = .slice A2 xs.length c2 := by rw [← hev]; exact (eval_put (by kernel_rfl) 67 rfl (by decide)).trans q29
      clear hev hd q5 q11 q19 q25 q27 q29
      exact .inl ⟨_, W.alloc (.cells #[.slice A5 L5.length c5, .slice A11 L11.length c11, .slice A19 2 2, .slice A25 L25.length c25, .slice A1 os.length c1, .slice A2 xs.length c2] 22), by go_simp, ⟨W.heap.size, [L5, L11, [h, f], L25, os, xs], rfl, by rw [Hid, HL5.out, HL11.out, HL25.out]; simp [tb, puts16, puts32, be16], rfl, by simp, W.heap.size, by simp, parts_at _ rfl (.cons r5 (.cons r11 (.cons r19 (.cons r25 (.cons (ho.next hVW) (.cons (hx.next hVW) .nil)))))) _ rfl _⟩, bnextA (Below.refl _ _) _⟩
    · obtain rfl := Option.some.inj hoo
      obtain ⟨g30, ls30, q30, HF30, HN30, hg30, B30, hB30, hP30⟩ := hd 30 (by kernel_rfl)
      refine .inl ⟨wanted_none rfl, ?_⟩
      generalize hev : Act.eval _ = ev
      have ec : ∀ c, ev (.const c) = c := fun c => by rw [← hev]; rfl
      have ef : ∀ f, ev (.func f) = .func (.func f) #[] #[] := fun f => by rw [← hev]; rfl
      have e52 : ev (.tmp 52) = .slice (some ⟨g30, 0, none⟩) 6 6 := by rw [← hev]; exact (eval_put (by kernel_rfl) 67 rfl (by decide)).trans q30
      clear hev hd q30
      exact .inr ⟨_, _, _, by go_simp, join_any W B30 g30 6 ls30 hP30 HN30.out (by omega) (by omega) (by rw [HF30.out, tb_len]; omega), fun e w' he => by
        obtain ⟨L, A, c, rfl, HL, hr, hb⟩ := he
        exact ⟨_, rfl, ⟨L, A, c, rfl, by rw [Hid, HL.out, HF30.out], hr⟩, hb⟩⟩
    · obtain rfl := Option.some.inj hoo
      obtain ⟨L31, A31, c31, q31, HL31, r31⟩ := hd 31 (by kernel_rfl)
      refine .inl ⟨wanted_none rfl, ?_⟩
      generalize hev : Act.eval _ = ev
      have ec : ∀ c, ev (.const c) = c := fun c => by rw [← hev]; rfl
      have e53 : ev (.tmp 53) = .slice A31 L31.length c31 := by rw [← hev]; exact (eval_put (by kernel_rfl) 67 rfl (by decide)).trans q31
      clear hev hd q31
      exact .inl ⟨_, W, by go_simp, ⟨L31, A31, c31, rfl, HL31, r31⟩, Below.refl _ _⟩
    · simp at hoo
  · intro uu W hVW hall
    obtain ⟨L, A, c, q32, HL, hr⟩ : ∃ L A c, uu 32 = .slice A L.length c ∧ Hid (L = tb a b q k h f z u 0 os xs) ∧ Rd bv W W.heap.size A c L := hall 32 (by decide)
    have hB := hB1.trans (hVW.mono hB1.size)
    clear hall HS hK1 HW HOR ho hx
    have HTL : L.length ≤ 65535 := by rw [HL.out, tb_len]; omega
    simp only [putAll, Act.put, Nat.reduceAdd, q32]
    simp only [List.setIfInBounds_toArray, List.set_cons_succ, List.set_cons_zero]
    go_wp2_with fail
    refine (tfalse_any s d A c L W HTL).mono ?_
    rintro e w2 ⟨L2, A3, c3, rfl, HL2, r2, hbel⟩
    replace hB := bnext hB hbel
    replace hr := hr.next hbel
    clear hbel
    go_wp2_with fail
    refine (sof_any _ _ _ 2 [L2, L] N (parts_at _ rfl (.cons r2 (.cons hr .nil)) _ rfl _) rfl (by omega) (by omega) (by simp [HL2.out, uh_len]; omega) (by rw [← (HN ()).out, HL2.out, HL.out, tb_len]; simp)).mono ?_
    rintro e w4 ⟨rfl, hbel⟩
    replace hB := bnext (bnextA hB _) hbel
    replace hr := (hr.nextA _).next hbel
    clear hbel r2 HL2 HN
    have hs := set16_yes A c L 16 (UInt16.ofNat (65535 - N)) _ hr (by rw [HL.out, tb_len]; omega) (by omega)
    rw [UInt16.ofNat_id _ (by omega)] at hs
    have HSET := Lib.hid hs
    clear hs
    go_wp2_with fail
    refine HSET.out.mono ?_
    rintro e w5 ⟨v5, rfl, hown, hbel⟩
    obtain ⟨L5, A5, c5, HL5, rfl, r5⟩ := hown.rdv
    go_wp2_with fail
    go_ret2
    exact ⟨L5, A5, c5, rfl, by rw [Hid, HL5.out, HL.out]; exact tb_set a b q k h f z u (65535 - N) (by omega) os xs, r5, bnext hB hbel⟩

end Go.Proofs.Ytfejdfdgbfpgkaa
