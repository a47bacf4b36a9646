/- Contracts of There, Here and the reference's Apply. -/
import Derived.Test.YtlceflfmdfoeiaaSpl2
namespace Go.Proofs.Ytlceflfmdfoeiaa
open Go.RowKit

theorem hasB_16 : ∀ n, n < 256 → (((n &&& 16) == 16) = decide (n / 16 % 2 = 1)) := by decide +kernel
set_option maxHeartbeats 2000000 in
theorem rapply_1 (p p2 : UInt16) (ts ta : UInt32) (a b : UInt16) (q k : UInt32) (r f : UInt8) (z u : UInt16) (q2 k2 : UInt32) (hq : q2 = q + ts) (hk : k2 = k + ta) (hf : hasB f 16 = true) (A1 A2 : Option Addr) (n1 n2 : Nat) (os xs : List UInt8) (w : World) :
    Calls Try.prog 9 #[.int .u16 (p.toNat : Int), .int .u16 (p2.toNat : Int), .int .u32 (ts.toNat : Int), .int .u32 (ta.toNat : Int), .agg #[.int .u16 (a.toNat : Int), .int .u16 (b.toNat : Int), .int .u32 (q.toNat : Int), .int .u32 (k.toNat : Int), .int .u8 (r.toNat : Int), .int .u8 (f.toNat : Int), .int .u16 (z.toNat : Int), .int .u16 (u.toNat : Int), .slice A1 os.length n1, .slice A2 xs.length n2]] w fun e w' => e = .returned (.agg #[.int .u16 (p.toNat : Int), .int .u16 (p2.toNat : Int), .int .u32 (q2.toNat : Int), .int .u32 (k2.toNat : Int), .int .u8 (r.toNat : Int), .int .u8 (f.toNat : Int), .int .u16 (z.toNat : Int), .int .u16 (u.toNat : Int), .slice A1 os.length n1, .slice A2 xs.length n2]) ∧ Below w.heap.size w w' := by
  have wq : IntKind.u32.wrap ((q.toNat : Int) + (ts.toNat : Int)) = (q2.toNat : Int) := by rw [hq, IntKind.wrap_u32, UInt32.toNat_add]; omega
  have wk : IntKind.u32.wrap ((k.toNat : Int) + (ta.toNat : Int)) = (k2.toNat : Int) := by rw [hk, IntKind.wrap_u32, UInt32.toNat_add]; omega
  have HH := fun W => Lib.hid (rbit_any f 16 16 rfl (by omega) (by omega) W)
  rw [show bitB f 16 = hasB f 16 from (hasB_16 f.toNat f.toNat_lt).symm, hf] at HH
  clear hq hf hk
  go_enter Try.func9, Try.ntmps9
  go_wp2_with fail
  refine (HH _).out.mono ?_
  rintro e w2 ⟨rfl, rfl⟩
  go_wp2_with fail
  simp [bodyPost, results, Try.results9, go_sem, *]
  exact bnextA (bnextA (bnextA (Below.refl _ _) _) _) _
set_option maxHeartbeats 2000000 in
theorem rapply_0 (p p2 : UInt16) (ts ta : UInt32) (a b : UInt16) (q k : UInt32) (r f : UInt8) (z u : UInt16) (q2 k2 : UInt32) (hq : q2 = q + ts) (hk : k = k2) (hf : hasB f 16 = false) (A1 A2 : Option Addr) (n1 n2 : Nat) (os xs : List UInt8) (w : World) :
    Calls Try.prog 9 #[.int .u16 (p.toNat : Int), .int .u16 (p2.toNat : Int), .int .u32 (ts.toNat : Int), .int .u32 (ta.toNat : Int), .agg #[.int .u16 (a.toNat : Int), .int .u16 (b.toNat : Int), .int .u32 (q.toNat : Int), .int .u32 (k.toNat : Int), .int .u8 (r.toNat : Int), .int .u8 (f.toNat : Int), .int .u16 (z.toNat : Int), .int .u16 (u.toNat : Int), .slice A1 os.length n1, .slice A2 xs.length n2]] w fun e w' => e = .returned (.agg #[.int .u16 (p.toNat : Int), .int .u16 (p2.toNat : Int), .int .u32 (q2.toNat : Int), .int .u32 (k2.toNat : Int), .int .u8 (r.toNat : Int), .int .u8 (f.toNat : Int), .int .u16 (z.toNat : Int), .int .u16 (u.toNat : Int), .slice A1 os.length n1, .slice A2 xs.length n2]) ∧ Below w.heap.size w w' := by
  have wq : IntKind.u32.wrap ((q.toNat : Int) + (ts.toNat : Int)) = (q2.toNat : Int) := by rw [hq, IntKind.wrap_u32, UInt32.toNat_add]; omega
  subst hk
  have HH := fun W => Lib.hid (rbit_any f 16 16 rfl (by omega) (by omega) W)
  rw [show bitB f 16 = hasB f 16 from (hasB_16 f.toNat f.toNat_lt).symm, hf] at HH
  clear hq hf
  go_enter Try.func9, Try.ntmps9
  go_wp2_with fail
  refine (HH _).out.mono ?_
  rintro e w2 ⟨rfl, rfl⟩
  go_wp2_with fail
  simp [bodyPost, results, Try.results9, go_sem, *]
  exact bnextA (bnextA (bnextA (Below.refl _ _) _) _) _
end Go.Proofs.Ytlceflfmdfoeiaa
