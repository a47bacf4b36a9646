/- Contracts of recv.Kind, of the functions Must, of unless. -/
import Derived.Test.YtkoamiefombilaaIcmp2
import Derived.Test.YtkoamiefombilaaTcp1
import Derived.Test.YtkoamiefombilaaUdp3
import Derived.Test.YtkoamiefombilaaIp1
namespace Go.Proofs.Ytkoamiefombilaa
open Go.RowKit

theorem ta_hit {P : Program} {a : TypeId} {fs : Array Field} (hu : P.underlying a = some (.struct fs)) (v : Value) (xT : TypeId) (w : World) : (Instr.typeAssert (.iface a v) xT a true).run P w = .ok (.tuple #[v, .bool true]) w := by
  simp [Instr.typeAssert, run_underlying hu]
theorem ta_bare {P : Program} {a : TypeId} {fs : Array Field} (hu : P.underlying a = some (.struct fs)) (v : Value) (xT : TypeId) (w : World) : (Instr.typeAssert (.iface a v) xT a false).run P w = .ok v w := by
  simp [Instr.typeAssert, run_underlying hu]
theorem ta_miss {P : Program} {t a : TypeId} {fs : Array Field} {z : Value} (hu : P.underlying a = some (.struct fs)) (hz : (P.info? a).map (·.zero) = some (some z)) (ht : t ≠ a) (v : Value) (xT : TypeId) (w : World) : (Instr.typeAssert (.iface t v) xT a true).run P w = .ok (.tuple #[z, .bool false]) w := by
  obtain ⟨j, hj, hz'⟩ := Option.map_eq_some_iff.1 hz
  simp [Instr.typeAssert, run_underlying hu, ht, zeroValue, typeInfo, hj, hz']
theorem ta_nil {P : Program} {a : TypeId} {fs : Array Field} {z : Value} (hu : P.underlying a = some (.struct fs)) (hz : (P.info? a).map (·.zero) = some (some z)) (xT : TypeId) (w : World) : (Instr.typeAssert .nilIface xT a true).run P w = .ok (.tuple #[z, .bool false]) w := by
  obtain ⟨j, hj, hz'⟩ := Option.map_eq_some_iff.1 hz
  simp [Instr.typeAssert, run_underlying hu, zeroValue, typeInfo, hj, hz']

set_option maxHeartbeats 4000000 in
theorem kind_icmp (ty co : UInt8) (re : UInt32) (A : Option Addr) (c : Nat) (xs : List UInt8) (w : World) : Calls Try.prog 21 #[.iface 25 (.agg #[.int .u8 (ty.toNat : Int), .int .u8 (co.toNat : Int), .int .u32 (re.toNat : Int), .slice A xs.length c])] w fun e w' => e = .returned (.int .i64 1) ∧ Below w.heap.size w w' := by
  have ficmp := fun v W => ta_hit (P := Try.prog) Try.underlying25 v 20 W
  go_enter Try.func21, Try.ntmps21
  go_wp2_with fail
  go_ret
  exact ⟨rfl, bnextA (Below.refl _ _) _⟩

set_option maxHeartbeats 4000000 in
theorem kind_dg (a b : UInt16) (g : Bool) (A : Option Addr) (c : Nat) (xs : List UInt8) (w : World) : Calls Try.prog 21 #[.iface 53 (.agg #[.int .u16 (a.toNat : Int), .int .u16 (b.toNat : Int), .bool g, .slice A xs.length c])] w fun e w' => e = .returned (.int .i64 2) ∧ Below w.heap.size w w' := by
  have ficmp := fun v W => ta_miss (P := Try.prog) (t := 53) (z := .agg #[.int .u8 0, .int .u8 0, .int .u32 0, .slice none 0 0]) Try.underlying25 (by kernel_rfl) (by decide) v 20 W
  have fdg := fun v W => ta_hit (P := Try.prog) Try.underlying53 v 20 W
  go_enter Try.func21, Try.ntmps21
  go_wp2_with fail
  go_ret
  exact ⟨rfl, bnextA (bnextA (Below.refl _ _) _) _⟩

set_option maxHeartbeats 4000000 in
theorem kind_sg (a b : UInt16) (q k : UInt32) (r f : UInt8) (z u : UInt16) (A1 A2 : Option Addr) (c1 c2 : Nat) (os xs : List UInt8) (w : World) : Calls Try.prog 21 #[.iface 59 (.agg #[.int .u16 (a.toNat : Int), .int .u16 (b.toNat : Int), .int .u32 (q.toNat : Int), .int .u32 (k.toNat : Int), .int .u8 (r.toNat : Int), .int .u8 (f.toNat : Int), .int .u16 (z.toNat : Int), .int .u16 (u.toNat : Int), .slice A1 os.length c1, .slice A2 xs.length c2])] w fun e w' => e = .returned (.int .i64 3) ∧ Below w.heap.size w w' := by
  have ficmp := fun v W => ta_miss (P := Try.prog) (t := 59) (z := .agg #[.int .u8 0, .int .u8 0, .int .u32 0, .slice none 0 0]) Try.underlying25 (by kernel_rfl) (by decide) v 20 W
  have fdg := fun v W => ta_miss (P := Try.prog) (t := 59) (z := .agg #[.int .u16 0, .int .u16 0, .bool false, .slice none 0 0]) Try.underlying53 (by kernel_rfl) (by decide) v 20 W
  have fsg := fun v W => ta_hit (P := Try.prog) Try.underlying59 v 20 W
  go_enter Try.func21, Try.ntmps21
  go_wp2_with fail
  go_ret
  exact ⟨rfl, bnextA (bnextA (bnextA (Below.refl _ _) _) _) _⟩

set_option maxHeartbeats 4000000 in
theorem kind_arp (op m0 m1 m2 m3 m4 m5 s k0 k1 k2 k3 k4 k5 d : Int) (w : World) : Calls Try.prog 21 #[.iface 68 (.agg #[.int .u16 op, .int .u8 m0, .int .u8 m1, .int .u8 m2, .int .u8 m3, .int .u8 m4, .int .u8 m5, .int .u32 s, .int .u8 k0, .int .u8 k1, .int .u8 k2, .int .u8 k3, .int .u8 k4, .int .u8 k5, .int .u32 d])] w fun e w' => e = .returned (.int .i64 4) ∧ Below w.heap.size w w' := by
  have ficmp := fun v W => ta_miss (P := Try.prog) (t := 68) (z := .agg #[.int .u8 0, .int .u8 0, .int .u32 0, .slice none 0 0]) Try.underlying25 (by kernel_rfl) (by decide) v 20 W
  have fdg := fun v W => ta_miss (P := Try.prog) (t := 68) (z := .agg #[.int .u16 0, .int .u16 0, .bool false, .slice none 0 0]) Try.underlying53 (by kernel_rfl) (by decide) v 20 W
  have fsg := fun v W => ta_miss (P := Try.prog) (t := 68) (z := .agg #[.int .u16 0, .int .u16 0, .int .u32 0, .int .u32 0, .int .u8 0, .int .u8 0, .int .u16 0, .int .u16 0, .slice none 0 0, .slice none 0 0]) Try.underlying59 (by kernel_rfl) (by decide) v 20 W
  have farp := fun v W => ta_hit (P := Try.prog) Try.underlying68 v 20 W
  go_enter Try.func21, Try.ntmps21
  go_wp2_with fail
  go_ret
  exact ⟨rfl, bnextA (bnextA (bnextA (bnextA (Below.refl _ _) _) _) _) _⟩

set_option maxHeartbeats 4000000 in
theorem kind_pk (tos : UInt8) (id : UInt16) (D M : Bool) (fo : UInt16) (ttl pr : UInt8) (s d : UInt32) (A1 A2 : Option Addr) (c1 c2 : Nat) (os xs : List UInt8) (w : World) : Calls Try.prog 21 #[.iface 38 (.agg #[.int .u8 (tos.toNat : Int), .int .u16 (id.toNat : Int), .bool D, .bool M, .int .u16 (fo.toNat : Int), .int .u8 (ttl.toNat : Int), .int .u8 (pr.toNat : Int), .int .u32 (s.toNat : Int), .int .u32 (d.toNat : Int), .slice A1 os.length c1, .slice A2 xs.length c2])] w fun e w' => e = .returned (.int .i64 5) ∧ Below w.heap.size w w' := by
  have ficmp := fun v W => ta_miss (P := Try.prog) (t := 38) (z := .agg #[.int .u8 0, .int .u8 0, .int .u32 0, .slice none 0 0]) Try.underlying25 (by kernel_rfl) (by decide) v 20 W
  have fdg := fun v W => ta_miss (P := Try.prog) (t := 38) (z := .agg #[.int .u16 0, .int .u16 0, .bool false, .slice none 0 0]) Try.underlying53 (by kernel_rfl) (by decide) v 20 W
  have fsg := fun v W => ta_miss (P := Try.prog) (t := 38) (z := .agg #[.int .u16 0, .int .u16 0, .int .u32 0, .int .u32 0, .int .u8 0, .int .u8 0, .int .u16 0, .int .u16 0, .slice none 0 0, .slice none 0 0]) Try.underlying59 (by kernel_rfl) (by decide) v 20 W
  have farp := fun v W => ta_miss (P := Try.prog) (t := 38) (z := .agg #[.int .u16 0, .int .u8 0, .int .u8 0, .int .u8 0, .int .u8 0, .int .u8 0, .int .u8 0, .int .u32 0, .int .u8 0, .int .u8 0, .int .u8 0, .int .u8 0, .int .u8 0, .int .u8 0, .int .u32 0]) Try.underlying68 (by kernel_rfl) (by decide) v 20 W
  have fpk := fun v W => ta_hit (P := Try.prog) Try.underlying38 v 20 W
  go_enter Try.func21, Try.ntmps21
  go_wp2_with fail
  go_ret
  exact ⟨rfl, bnextA (bnextA (bnextA (bnextA (bnextA (Below.refl _ _) _) _) _) _) _⟩

set_option maxHeartbeats 4000000 in
theorem kind_int (n : Int) (w : World) : Calls Try.prog 21 #[.iface 3 (.int .i64 n)] w fun e w' => e = .returned (.int .i64 0) ∧ Below w.heap.size w w' := by
  have ficmp := fun v W => ta_miss (P := Try.prog) (t := 3) (z := .agg #[.int .u8 0, .int .u8 0, .int .u32 0, .slice none 0 0]) Try.underlying25 (by kernel_rfl) (by decide) v 20 W
  have fdg := fun v W => ta_miss (P := Try.prog) (t := 3) (z := .agg #[.int .u16 0, .int .u16 0, .bool false, .slice none 0 0]) Try.underlying53 (by kernel_rfl) (by decide) v 20 W
  have fsg := fun v W => ta_miss (P := Try.prog) (t := 3) (z := .agg #[.int .u16 0, .int .u16 0, .int .u32 0, .int .u32 0, .int .u8 0, .int .u8 0, .int .u16 0, .int .u16 0, .slice none 0 0, .slice none 0 0]) Try.underlying59 (by kernel_rfl) (by decide) v 20 W
  have farp := fun v W => ta_miss (P := Try.prog) (t := 3) (z := .agg #[.int .u16 0, .int .u8 0, .int .u8 0, .int .u8 0, .int .u8 0, .int .u8 0, .int .u8 0, .int .u32 0, .int .u8 0, .int .u8 0, .int .u8 0, .int .u8 0, .int .u8 0, .int .u8 0, .int .u32 0]) Try.underlying68 (by kernel_rfl) (by decide) v 20 W
  have fpk := fun v W => ta_miss (P := Try.prog) (t := 3) (z := .agg #[.int .u8 0, .int .u16 0, .bool false, .bool false, .int .u16 0, .int .u8 0, .int .u8 0, .int .u32 0, .int .u32 0, .slice none 0 0, .slice none 0 0]) Try.underlying38 (by kernel_rfl) (by decide) v 20 W
  go_enter Try.func21, Try.ntmps21
  go_wp2_with fail
  go_ret
  exact ⟨rfl, bnextA (bnextA (bnextA (bnextA (bnextA (Below.refl _ _) _) _) _) _) _⟩

set_option maxHeartbeats 4000000 in
theorem kind_nil  (w : World) : Calls Try.prog 21 #[.nilIface] w fun e w' => e = .returned (.int .i64 0) ∧ Below w.heap.size w w' := by
  have ficmp := fun W => ta_nil (P := Try.prog) (z := .agg #[.int .u8 0, .int .u8 0, .int .u32 0, .slice none 0 0]) Try.underlying25 (by kernel_rfl)  20 W
  have fdg := fun W => ta_nil (P := Try.prog) (z := .agg #[.int .u16 0, .int .u16 0, .bool false, .slice none 0 0]) Try.underlying53 (by kernel_rfl)  20 W
  have fsg := fun W => ta_nil (P := Try.prog) (z := .agg #[.int .u16 0, .int .u16 0, .int .u32 0, .int .u32 0, .int .u8 0, .int .u8 0, .int .u16 0, .int .u16 0, .slice none 0 0, .slice none 0 0]) Try.underlying59 (by kernel_rfl)  20 W
  have farp := fun W => ta_nil (P := Try.prog) (z := .agg #[.int .u16 0, .int .u8 0, .int .u8 0, .int .u8 0, .int .u8 0, .int .u8 0, .int .u8 0, .int .u32 0, .int .u8 0, .int .u8 0, .int .u8 0, .int .u8 0, .int .u8 0, .int .u8 0, .int .u32 0]) Try.underlying68 (by kernel_rfl)  20 W
  have fpk := fun W => ta_nil (P := Try.prog) (z := .agg #[.int .u8 0, .int .u16 0, .bool false, .bool false, .int .u16 0, .int .u8 0, .int .u8 0, .int .u32 0, .int .u32 0, .slice none 0 0, .slice none 0 0]) Try.underlying38 (by kernel_rfl)  20 W
  go_enter Try.func21, Try.ntmps21
  go_wp2_with fail
  go_ret
  exact ⟨rfl, bnextA (bnextA (bnextA (bnextA (bnextA (Below.refl _ _) _) _) _) _) _⟩

theorem must_icmp (ty co : UInt8) (re : UInt32) (A : Option Addr) (c : Nat) (xs : List UInt8) (w : World) : Calls Try.prog 23 #[.iface 25 (.agg #[.int .u8 (ty.toNat : Int), .int .u8 (co.toNat : Int), .int .u32 (re.toNat : Int), .slice A xs.length c])] w fun e w' => e = .returned (.agg #[.int .u8 (ty.toNat : Int), .int .u8 (co.toNat : Int), .int .u32 (re.toNat : Int), .slice A xs.length c]) ∧ Below w.heap.size w w' := by
  have hb := fun v W => ta_bare (P := Try.prog) Try.underlying25 v 20 W
  go_enter Try.func23, Try.ntmps23
  go_wp2_with fail
  simp [bodyPost, results, Try.results23, go_sem, *]
  exact bnextA (Below.refl _ _) _

theorem must_dg (a b : UInt16) (g : Bool) (A : Option Addr) (c : Nat) (xs : List UInt8) (w : World) : Calls Try.prog 26 #[.iface 53 (.agg #[.int .u16 (a.toNat : Int), .int .u16 (b.toNat : Int), .bool g, .slice A xs.length c])] w fun e w' => e = .returned (.agg #[.int .u16 (a.toNat : Int), .int .u16 (b.toNat : Int), .bool g, .slice A xs.length c]) ∧ Below w.heap.size w w' := by
  have hb := fun v W => ta_bare (P := Try.prog) Try.underlying53 v 20 W
  go_enter Try.func26, Try.ntmps26
  go_wp2_with fail
  simp [bodyPost, results, Try.results26, go_sem, *]
  exact bnextA (Below.refl _ _) _

theorem must_sg (a b : UInt16) (q k : UInt32) (r f : UInt8) (z u : UInt16) (A1 A2 : Option Addr) (c1 c2 : Nat) (os xs : List UInt8) (w : World) : Calls Try.prog 29 #[.iface 59 (.agg #[.int .u16 (a.toNat : Int), .int .u16 (b.toNat : Int), .int .u32 (q.toNat : Int), .int .u32 (k.toNat : Int), .int .u8 (r.toNat : Int), .int .u8 (f.toNat : Int), .int .u16 (z.toNat : Int), .int .u16 (u.toNat : Int), .slice A1 os.length c1, .slice A2 xs.length c2])] w fun e w' => e = .returned (.agg #[.int .u16 (a.toNat : Int), .int .u16 (b.toNat : Int), .int .u32 (q.toNat : Int), .int .u32 (k.toNat : Int), .int .u8 (r.toNat : Int), .int .u8 (f.toNat : Int), .int .u16 (z.toNat : Int), .int .u16 (u.toNat : Int), .slice A1 os.length c1, .slice A2 xs.length c2]) ∧ Below w.heap.size w w' := by
  have hb := fun v W => ta_bare (P := Try.prog) Try.underlying59 v 20 W
  go_enter Try.func29, Try.ntmps29
  go_wp2_with fail
  simp [bodyPost, results, Try.results29, go_sem, *]
  exact bnextA (Below.refl _ _) _

theorem unless_ok (v : Value) (w : World) : Calls Try.prog 58 #[v, .int .i64 0] w fun e w' => e = .returned (.tuple #[v, .int .i64 0]) ∧ w = w' := by
  go_enter Try.func58, Try.ntmps58
  go_wp2_with fail
  go_ret2
  exact ⟨rfl, rfl⟩
theorem unless_no (v : Value) (e0 : Int) (he : ((e0 : Int) != 0) = true) (w : World) : Calls Try.prog 58 #[v, .int .i64 e0] w fun e w' => e = .returned (.tuple #[.nilIface, .int .i64 e0]) ∧ w = w' := by
  go_enter Try.func58, Try.ntmps58
  go_wp2_with fail
  go_ret2
  exact ⟨rfl, rfl⟩
end Go.Proofs.Ytkoamiefombilaa
