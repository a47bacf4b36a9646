/- Contracts of tcp.Put and of the reference's. -/
import Derived.Test.YtlceflfmdfoeiaaTcp1
import Derived.Test.YtlceflfmdfoeiaaReg
namespace Go.Proofs.Ytlceflfmdfoeiaa
open Go.RowKit

theorem Parts.next {w w' : World} {B g : Nat} {ls : List (List UInt8)} (h : Parts w B g ls) (hg : g < w.heap.size) (hB : B ≤ w.heap.size) (hb : Below w.heap.size w w') : Parts w' B g ls := by
  obtain ⟨vs, h1, h2⟩ := h
  exact ⟨vs, h1.keep (hb.mono hB), fun i v hv => (hb.cell hg).trans (h2 i v hv)⟩
/-- The byte of a head's words and what is reserved. -/
theorem th_of (m r : Nat) (hm : m ≤ 15) (hr : r ≤ 15) : ∃ h : UInt8, h.toNat = m * 16 + r ∧ bits BinOp.or IntKind.u8 ((m : Int) * 16) (r : Int) = (h.toNat : Int) := by
  refine ⟨UInt8.ofNat (m * 16 + r), by simp; omega, ?_⟩
  have e : (UInt8.ofNat (m * 16 + r)).toNat = m * 16 + r := by simp; omega
  rw [e, show (m : Int) * 16 = ((m * 16 : Nat) : Int) by omega, u8_or_nat _ _ (by omega) (by omega), nat_join 4 _ _ (by omega) (by omega)]
theorem tb_set (a b : UInt16) (q k : UInt32) (h f : UInt8) (z u : UInt16) (x : Nat) (hx : x ≤ 65535) (os xs : List UInt8) : ((tb a b q k h f z u 0 os xs).set 16 (UInt8.ofNat (x / 256))).set 17 (UInt8.ofNat (x % 256)) = tb a b q k h f z u x os xs := by
  rw [tb, tb, be16_ofNat x hx]
  rfl

theorem rtput_bad0 (s d : UInt32) (a b : UInt16) (q k : UInt32) (r f : UInt8) (z u : UInt16) (A1 A2 : Option Addr) (n1 c1 n2 c2 : Nat) (hn1 : n1 ≤ 1000000000) (hn2 : n2 ≤ 1000000000) (w : World) (h1 : 15 < r.toNat) :
    Calls Try.prog 6 #[.int .u32 (s.toNat : Int), .int .u32 (d.toNat : Int), .agg #[.int .u16 (a.toNat : Int), .int .u16 (b.toNat : Int), .int .u32 (q.toNat : Int), .int .u32 (k.toNat : Int), .int .u8 (r.toNat : Int), .int .u8 (f.toNat : Int), .int .u16 (z.toNat : Int), .int .u16 (u.toNat : Int), .slice A1 n1 c1, .slice A2 n2 c2]] w fun e w' => e = .returned (.tuple #[.slice none 0 0, .int .i64 2]) ∧ Below w.heap.size w w' := by
  have hc := fun W => Lib.hid (rtmay_bad0 a b q k r f z u A1 A2 n1 c1 n2 c2 hn1 hn2 W h1)
  clear h1
  go_enter Try.func6, Try.ntmps6
  go_wp2_with fail
  refine (hc _).out.mono ?_
  rintro e w1 ⟨rfl, hbel⟩
  go_wp2_with fail
  go_ret2
  exact ⟨rfl, bnext (bnextA (Below.refl _ _) _) hbel⟩

theorem rtput_bad1 (s d : UInt32) (a b : UInt16) (q k : UInt32) (r f : UInt8) (z u : UInt16) (A1 A2 : Option Addr) (n1 c1 n2 c2 : Nat) (hn1 : n1 ≤ 1000000000) (hn2 : n2 ≤ 1000000000) (w : World) (h1 : r.toNat ≤ 15) (h2 : 40 < n1) :
    Calls Try.prog 6 #[.int .u32 (s.toNat : Int), .int .u32 (d.toNat : Int), .agg #[.int .u16 (a.toNat : Int), .int .u16 (b.toNat : Int), .int .u32 (q.toNat : Int), .int .u32 (k.toNat : Int), .int .u8 (r.toNat : Int), .int .u8 (f.toNat : Int), .int .u16 (z.toNat : Int), .int .u16 (u.toNat : Int), .slice A1 n1 c1, .slice A2 n2 c2]] w fun e w' => e = .returned (.tuple #[.slice none 0 0, .int .i64 2]) ∧ Below w.heap.size w w' := by
  have hc := fun W => Lib.hid (rtmay_bad1 a b q k r f z u A1 A2 n1 c1 n2 c2 hn1 hn2 W h1 h2)
  clear h1 h2
  go_enter Try.func6, Try.ntmps6
  go_wp2_with fail
  refine (hc _).out.mono ?_
  rintro e w1 ⟨rfl, hbel⟩
  go_wp2_with fail
  go_ret2
  exact ⟨rfl, bnext (bnextA (Below.refl _ _) _) hbel⟩

theorem rtput_bad2 (s d : UInt32) (a b : UInt16) (q k : UInt32) (r f : UInt8) (z u : UInt16) (A1 A2 : Option Addr) (n1 c1 n2 c2 : Nat) (hn1 : n1 ≤ 1000000000) (hn2 : n2 ≤ 1000000000) (w : World) (h1 : r.toNat ≤ 15) (h2 : n1 ≤ 40) (h3 : n1 % 4 ≠ 0) :
    Calls Try.prog 6 #[.int .u32 (s.toNat : Int), .int .u32 (d.toNat : Int), .agg #[.int .u16 (a.toNat : Int), .int .u16 (b.toNat : Int), .int .u32 (q.toNat : Int), .int .u32 (k.toNat : Int), .int .u8 (r.toNat : Int), .int .u8 (f.toNat : Int), .int .u16 (z.toNat : Int), .int .u16 (u.toNat : Int), .slice A1 n1 c1, .slice A2 n2 c2]] w fun e w' => e = .returned (.tuple #[.slice none 0 0, .int .i64 2]) ∧ Below w.heap.size w w' := by
  have hc := fun W => Lib.hid (rtmay_bad2 a b q k r f z u A1 A2 n1 c1 n2 c2 hn1 hn2 W h1 h2 h3)
  clear h1 h2 h3
  go_enter Try.func6, Try.ntmps6
  go_wp2_with fail
  refine (hc _).out.mono ?_
  rintro e w1 ⟨rfl, hbel⟩
  go_wp2_with fail
  go_ret2
  exact ⟨rfl, bnext (bnextA (Below.refl _ _) _) hbel⟩

theorem rtput_bad3 (s d : UInt32) (a b : UInt16) (q k : UInt32) (r f : UInt8) (z u : UInt16) (A1 A2 : Option Addr) (n1 c1 n2 c2 : Nat) (hn1 : n1 ≤ 1000000000) (hn2 : n2 ≤ 1000000000) (w : World) (h1 : r.toNat ≤ 15) (h2 : n1 ≤ 40) (h3 : n1 % 4 = 0) (h4 : 65535 < 20 + n1 + n2) :
    Calls Try.prog 6 #[.int .u32 (s.toNat : Int), .int .u32 (d.toNat : Int), .agg #[.int .u16 (a.toNat : Int), .int .u16 (b.toNat : Int), .int .u32 (q.toNat : Int), .int .u32 (k.toNat : Int), .int .u8 (r.toNat : Int), .int .u8 (f.toNat : Int), .int .u16 (z.toNat : Int), .int .u16 (u.toNat : Int), .slice A1 n1 c1, .slice A2 n2 c2]] w fun e w' => e = .returned (.tuple #[.slice none 0 0, .int .i64 2]) ∧ Below w.heap.size w w' := by
  have hc := fun W => Lib.hid (rtmay_bad3 a b q k r f z u A1 A2 n1 c1 n2 c2 hn1 hn2 W h1 h2 h3 h4)
  clear h1 h2 h3 h4
  go_enter Try.func6, Try.ntmps6
  go_wp2_with fail
  refine (hc _).out.mono ?_
  rintro e w1 ⟨rfl, hbel⟩
  go_wp2_with fail
  go_ret2
  exact ⟨rfl, bnext (bnextA (Below.refl _ _) _) hbel⟩

end Go.Proofs.Ytlceflfmdfoeiaa
