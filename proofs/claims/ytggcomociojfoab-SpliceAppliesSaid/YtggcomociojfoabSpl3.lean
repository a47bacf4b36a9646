/- Contracts of There, Here and the reference's Apply. -/
import Derived.Test.YtggcomociojfoabSpl2
namespace Go.Proofs.Ytggcomociojfoab
open Go.RowKit

theorem hasB_16 : ∀ n, n < 256 → (((n &&& 16) == 16) = decide (n / 16 % 2 = 1)) := by decide +kernel
set_option maxHeartbeats 2000000 in
theorem there_any (fs fd : UInt32) (fp fq pt : UInt16) (sh : UInt32) (e4 e5 e6 e7 e8 e9 e12 : Value) (cs : Array Value) (c1 : UInt32) (hcs : cs.toList[13]? = some (.int .u32 (c1.toNat : Int))) (to : UInt32) (port : UInt16) (w : World) :
    Calls Try.prog 8 #[.agg #[.int .u32 (fs.toNat : Int), .int .u32 (fd.toNat : Int), .int .u16 (fp.toNat : Int), .int .u16 (fq.toNat : Int), e4, e5, e6, e7, e8, e9, .int .u16 (pt.toNat : Int), .int .u32 (sh.toNat : Int), e12], .agg cs, .int .u32 (to.toNat : Int), .int .u16 (port.toNat : Int)] w fun e w' => e = .returned (.agg #[.int .u32 (c1.toNat : Int), .int .u32 (to.toNat : Int), .int .u16 (pt.toNat : Int), .int .u16 (port.toNat : Int), .int .u32 0, .int .u32 (sh.toNat : Int)]) ∧ Below w.heap.size w w' := by
  have KC : Blk ((w.alloc (.cells #[.int .u32 (fs.toNat : Int), .int .u32 (fd.toNat : Int), .int .u16 (fp.toNat : Int), .int .u16 (fq.toNat : Int), e4, e5, e6, e7, e8, e9, .int .u16 (pt.toNat : Int), .int .u32 (sh.toNat : Int), e12] 27)).alloc (.cells cs 37)) (w.heap.size + 1) cs.toList 37 := by
    have := Blk.new (w.alloc (.cells #[.int .u32 (fs.toNat : Int), .int .u32 (fd.toNat : Int), .int .u16 (fp.toNat : Int), .int .u16 (fq.toNat : Int), e4, e5, e6, e7, e8, e9, .int .u16 (pt.toNat : Int), .int .u32 (sh.toNat : Int), e12] 27)) cs 37
    simpa using this
  have hc := (KC.alloc (.cells #[.int .u32 0, .int .u32 0, .int .u16 0, .int .u16 0, .int .u32 0, .int .u32 0] 43)).cell 13
  have hc2 := KC.cell 13
  rw [hcs] at hc hc2
  clear KC hcs
  go_enter Try.func8, Try.ntmps8
  go_wp2_with fail
  simp [bodyPost, results, Try.results8, go_sem, *]
  exact bnextA (bnextA (bnextA (Below.refl _ _) _) _) _
set_option maxHeartbeats 2000000 in
theorem here_any (fs fd : UInt32) (fp fq pt : UInt16) (sh : UInt32) (e4 e5 e6 e7 e8 e9 e12 : Value) (sq : UInt32) (hsq : (sh.toNat + sq.toNat) % 4294967296 = 0) (w : World) :
    Calls Try.prog 9 #[.agg #[.int .u32 (fs.toNat : Int), .int .u32 (fd.toNat : Int), .int .u16 (fp.toNat : Int), .int .u16 (fq.toNat : Int), e4, e5, e6, e7, e8, e9, .int .u16 (pt.toNat : Int), .int .u32 (sh.toNat : Int), e12]] w fun e w' => e = .returned (.agg #[.int .u32 (fd.toNat : Int), .int .u32 (fs.toNat : Int), .int .u16 (fq.toNat : Int), .int .u16 (fp.toNat : Int), .int .u32 (sq.toNat : Int), .int .u32 0]) ∧ Below w.heap.size w w' := by
  have wn : IntKind.u32.wrap (-(sh.toNat : Int)) = (sq.toNat : Int) := by have := sh.toNat_lt; have := sq.toNat_lt; rw [IntKind.wrap_u32]; omega
  clear hsq
  go_enter Try.func9, Try.ntmps9
  go_wp2_with fail
  simp [bodyPost, results, Try.results9, go_sem, *]
  exact bnextA (bnextA (Below.refl _ _) _) _
set_option maxHeartbeats 2000000 in
theorem rapply_1 (p p2 : UInt16) (ts ta : UInt32) (a b : UInt16) (q k : UInt32) (r f : UInt8) (z u : UInt16) (q2 k2 : UInt32) (hq : q2 = q + ts) (hk : k2 = k + ta) (hf : hasB f 16 = true) (A1 A2 : Option Addr) (n1 n2 : Nat) (os xs : List UInt8) (w : World) :
    Calls Try.prog 13 #[.int .u16 (p.toNat : Int), .int .u16 (p2.toNat : Int), .int .u32 (ts.toNat : Int), .int .u32 (ta.toNat : Int), .agg #[.int .u16 (a.toNat : Int), .int .u16 (b.toNat : Int), .int .u32 (q.toNat : Int), .int .u32 (k.toNat : Int), .int .u8 (r.toNat : Int), .int .u8 (f.toNat : Int), .int .u16 (z.toNat : Int), .int .u16 (u.toNat : Int), .slice A1 os.length n1, .slice A2 xs.length n2]] w fun e w' => e = .returned (.agg #[.int .u16 (p.toNat : Int), .int .u16 (p2.toNat : Int), .int .u32 (q2.toNat : Int), .int .u32 (k2.toNat : Int), .int .u8 (r.toNat : Int), .int .u8 (f.toNat : Int), .int .u16 (z.toNat : Int), .int .u16 (u.toNat : Int), .slice A1 os.length n1, .slice A2 xs.length n2]) ∧ Below w.heap.size w w' := by
  have wq : IntKind.u32.wrap ((q.toNat : Int) + (ts.toNat : Int)) = (q2.toNat : Int) := by rw [hq, IntKind.wrap_u32, UInt32.toNat_add]; omega
  have wk : IntKind.u32.wrap ((k.toNat : Int) + (ta.toNat : Int)) = (k2.toNat : Int) := by rw [hk, IntKind.wrap_u32, UInt32.toNat_add]; omega
  have HH := fun W => Lib.hid (rbit_any f 16 16 rfl (by omega) (by omega) W)
  rw [show bitB f 16 = hasB f 16 from (hasB_16 f.toNat f.toNat_lt).symm, hf] at HH
  clear hq hf hk
  go_enter Try.func13, Try.ntmps13
  go_wp2_with fail
  refine (HH _).out.mono ?_
  rintro e w2 ⟨rfl, rfl⟩
  go_wp2_with fail
  simp [bodyPost, results, Try.results13, go_sem, *]
  exact bnextA (bnextA (bnextA (Below.refl _ _) _) _) _
set_option maxHeartbeats 2000000 in
theorem rapply_0 (p p2 : UInt16) (ts ta : UInt32) (a b : UInt16) (q k : UInt32) (r f : UInt8) (z u : UInt16) (q2 k2 : UInt32) (hq : q2 = q + ts) (hk : k = k2) (hf : hasB f 16 = false) (A1 A2 : Option Addr) (n1 n2 : Nat) (os xs : List UInt8) (w : World) :
    Calls Try.prog 13 #[.int .u16 (p.toNat : Int), .int .u16 (p2.toNat : Int), .int .u32 (ts.toNat : Int), .int .u32 (ta.toNat : Int), .agg #[.int .u16 (a.toNat : Int), .int .u16 (b.toNat : Int), .int .u32 (q.toNat : Int), .int .u32 (k.toNat : Int), .int .u8 (r.toNat : Int), .int .u8 (f.toNat : Int), .int .u16 (z.toNat : Int), .int .u16 (u.toNat : Int), .slice A1 os.length n1, .slice A2 xs.length n2]] w fun e w' => e = .returned (.agg #[.int .u16 (p.toNat : Int), .int .u16 (p2.toNat : Int), .int .u32 (q2.toNat : Int), .int .u32 (k2.toNat : Int), .int .u8 (r.toNat : Int), .int .u8 (f.toNat : Int), .int .u16 (z.toNat : Int), .int .u16 (u.toNat : Int), .slice A1 os.length n1, .slice A2 xs.length n2]) ∧ Below w.heap.size w w' := by
  have wq : IntKind.u32.wrap ((q.toNat : Int) + (ts.toNat : Int)) = (q2.toNat : Int) := by rw [hq, IntKind.wrap_u32, UInt32.toNat_add]; omega
  subst hk
  have HH := fun W => Lib.hid (rbit_any f 16 16 rfl (by omega) (by omega) W)
  rw [show bitB f 16 = hasB f 16 from (hasB_16 f.toNat f.toNat_lt).symm, hf] at HH
  clear hq hf
  go_enter Try.func13, Try.ntmps13
  go_wp2_with fail
  refine (HH _).out.mono ?_
  rintro e w2 ⟨rfl, rfl⟩
  go_wp2_with fail
  simp [bodyPost, results, Try.results13, go_sem, *]
  exact bnextA (bnextA (bnextA (Below.refl _ _) _) _) _
end Go.Proofs.Ytggcomociojfoab
