/- Contracts of recv.Body. -/
import Derived.Test.YtkoamiefombilaaRecv1
namespace Go.Proofs.Ytkoamiefombilaa
open Go.RowKit

set_option maxHeartbeats 4000000 in
theorem body_icmp_ok (tos : UInt8) (id : UInt16) (D M : Bool) (fo : UInt16) (ttl pr : UInt8) (s d : UInt32) (Ap A : Option Addr) (np cp c : Nat) (xs : List UInt8) (ty co : UInt8) (re : UInt32) (Q1 : List UInt8) (w : World) (hr : Rd bv w w.heap.size A c xs) (h1 : ((pr.toNat : Int) == 1) = true)
    (HP : ∀ A c W, Rd bv W W.heap.size A c xs → Hid (Calls Try.prog 57 #[.slice A xs.length c] W fun e w' => ∃ (L1 : List UInt8) (A1 : Option Addr) (c1 : Nat), e = .returned (.tuple #[.agg #[.int .u8 (ty.toNat : Int), .int .u8 (co.toNat : Int), .int .u32 (re.toNat : Int), .slice A1 L1.length c1], .int .i64 0]) ∧ Hid (L1 = Q1) ∧ Rd bv w' w'.heap.size A1 c1 L1 ∧ Below W.heap.size W w')) :
    Calls Try.prog 18 #[.agg #[.int .u8 (tos.toNat : Int), .int .u16 (id.toNat : Int), .bool D, .bool M, .int .u16 (fo.toNat : Int), .int .u8 (ttl.toNat : Int), .int .u8 (pr.toNat : Int), .int .u32 (s.toNat : Int), .int .u32 (d.toNat : Int), .slice Ap np cp, .slice A xs.length c]] w fun e w' => ∃ (L1 : List UInt8) (A1 : Option Addr) (c1 : Nat), e = .returned (.tuple #[.iface 25 (.agg #[.int .u8 (ty.toNat : Int), .int .u8 (co.toNat : Int), .int .u32 (re.toNat : Int), .slice A1 L1.length c1]), .int .i64 0]) ∧ Hid (L1 = Q1) ∧ Rd bv w' w'.heap.size A1 c1 L1 ∧ Below w.heap.size w w' := by
  obtain ⟨W1, hW1⟩ : ∃ W1, W1 = w.alloc (.cells #[.int .u8 (tos.toNat : Int), .int .u16 (id.toNat : Int), .bool D, .bool M, .int .u16 (fo.toNat : Int), .int .u8 (ttl.toNat : Int), .int .u8 (pr.toNat : Int), .int .u32 (s.toNat : Int), .int .u32 (d.toNat : Int), .slice Ap np cp, .slice A xs.length c] 38) := ⟨_, rfl⟩
  have hB : Below w.heap.size w W1 := by subst hW1; exact bnextA (Below.refl _ _) _
  have K1 : Blk W1 w.heap.size [.int .u8 (tos.toNat : Int), .int .u16 (id.toNat : Int), .bool D, .bool M, .int .u16 (fo.toNat : Int), .int .u8 (ttl.toNat : Int), .int .u8 (pr.toNat : Int), .int .u32 (s.toNat : Int), .int .u32 (d.toNat : Int), .slice Ap np cp, .slice A xs.length c] 38 := by subst hW1; exact Blk.new _ _ _
  have hlc := hr.len
  have hcc := hr.cap
  replace hr := hr.next hB
  obtain ⟨p0, p1, p2, p3, p4, p5, p6, p7, p8, p9, p10, -⟩ := K1.get11
  go_enter Try.func18, Try.ntmps18
  go_wp2_with fail
  rw [← hW1]
  clear hW1
  refine (HP _ _ _ hr).out.mono ?_
  rintro e w2 ⟨L1, A1, c1, rfl, HL1, r1, hbel⟩
  replace hB := bnextA (bnext hB hbel) (.cells #[.int .u8 (ty.toNat : Int), .int .u8 (co.toNat : Int), .int .u32 (re.toNat : Int), .slice A1 L1.length c1] 25)
  have KM := Blk.new w2 #[.int .u8 (ty.toNat : Int), .int .u8 (co.toNat : Int), .int .u32 (re.toNat : Int), .slice A1 L1.length c1] 25
  replace r1 := r1.nextA (.cells #[.int .u8 (ty.toNat : Int), .int .u8 (co.toNat : Int), .int .u32 (re.toNat : Int), .slice A1 L1.length c1] 25)
  clear hbel HP hr K1 p0 p1 p2 p3 p4 p5 p6 p7 p8 p9 p10
  obtain ⟨m0, m1, m2, m3, -⟩ := KM.get4
  go_wp2_with fail
  refine (unless_ok _ _).mono ?_
  rintro e w3 ⟨rfl, rfl⟩
  clear KM m0 m1 m2 m3
  go_wp2_with fail
  go_ret2
  exact ⟨L1, A1, c1, rfl, HL1, r1, hB⟩

set_option maxHeartbeats 4000000 in
theorem body_icmp_no (tos : UInt8) (id : UInt16) (D M : Bool) (fo : UInt16) (ttl pr : UInt8) (s d : UInt32) (Ap A : Option Addr) (np cp c : Nat) (xs : List UInt8) (ty co : UInt8) (re : UInt32) (Q1 : List UInt8) (w : World) (hr : Rd bv w w.heap.size A c xs) (h1 : ((pr.toNat : Int) == 1) = true) (er : Int) (he : ((er : Int) != 0) = true)
    (HP : ∀ A c W, Rd bv W W.heap.size A c xs → Hid (Calls Try.prog 57 #[.slice A xs.length c] W fun e w' => ∃ (L1 : List UInt8) (A1 : Option Addr) (c1 : Nat), e = .returned (.tuple #[.agg #[.int .u8 (ty.toNat : Int), .int .u8 (co.toNat : Int), .int .u32 (re.toNat : Int), .slice A1 L1.length c1], .int .i64 er]) ∧ Hid (L1 = Q1) ∧ Rd bv w' w'.heap.size A1 c1 L1 ∧ Below W.heap.size W w')) :
    Calls Try.prog 18 #[.agg #[.int .u8 (tos.toNat : Int), .int .u16 (id.toNat : Int), .bool D, .bool M, .int .u16 (fo.toNat : Int), .int .u8 (ttl.toNat : Int), .int .u8 (pr.toNat : Int), .int .u32 (s.toNat : Int), .int .u32 (d.toNat : Int), .slice Ap np cp, .slice A xs.length c]] w fun e w' => e = .returned (.tuple #[.nilIface, .int .i64 er]) ∧ Below w.heap.size w w' := by
  obtain ⟨W1, hW1⟩ : ∃ W1, W1 = w.alloc (.cells #[.int .u8 (tos.toNat : Int), .int .u16 (id.toNat : Int), .bool D, .bool M, .int .u16 (fo.toNat : Int), .int .u8 (ttl.toNat : Int), .int .u8 (pr.toNat : Int), .int .u32 (s.toNat : Int), .int .u32 (d.toNat : Int), .slice Ap np cp, .slice A xs.length c] 38) := ⟨_, rfl⟩
  have hB : Below w.heap.size w W1 := by subst hW1; exact bnextA (Below.refl _ _) _
  have K1 : Blk W1 w.heap.size [.int .u8 (tos.toNat : Int), .int .u16 (id.toNat : Int), .bool D, .bool M, .int .u16 (fo.toNat : Int), .int .u8 (ttl.toNat : Int), .int .u8 (pr.toNat : Int), .int .u32 (s.toNat : Int), .int .u32 (d.toNat : Int), .slice Ap np cp, .slice A xs.length c] 38 := by subst hW1; exact Blk.new _ _ _
  have hlc := hr.len
  have hcc := hr.cap
  replace hr := hr.next hB
  obtain ⟨p0, p1, p2, p3, p4, p5, p6, p7, p8, p9, p10, -⟩ := K1.get11
  go_enter Try.func18, Try.ntmps18
  go_wp2_with fail
  rw [← hW1]
  clear hW1
  refine (HP _ _ _ hr).out.mono ?_
  rintro e w2 ⟨L1, A1, c1, rfl, HL1, r1, hbel⟩
  replace hB := bnextA (bnext hB hbel) (.cells #[.int .u8 (ty.toNat : Int), .int .u8 (co.toNat : Int), .int .u32 (re.toNat : Int), .slice A1 L1.length c1] 25)
  have KM := Blk.new w2 #[.int .u8 (ty.toNat : Int), .int .u8 (co.toNat : Int), .int .u32 (re.toNat : Int), .slice A1 L1.length c1] 25
  replace r1 := r1.nextA (.cells #[.int .u8 (ty.toNat : Int), .int .u8 (co.toNat : Int), .int .u32 (re.toNat : Int), .slice A1 L1.length c1] 25)
  clear hbel HP hr K1 p0 p1 p2 p3 p4 p5 p6 p7 p8 p9 p10
  obtain ⟨m0, m1, m2, m3, -⟩ := KM.get4
  go_wp2_with fail
  refine (unless_no _ er he _).mono ?_
  rintro e w3 ⟨rfl, rfl⟩
  clear KM m0 m1 m2 m3
  go_wp2_with fail
  go_ret2
  exact ⟨rfl, hB⟩

set_option maxHeartbeats 4000000 in
theorem body_dg_ok (tos : UInt8) (id : UInt16) (D M : Bool) (fo : UInt16) (ttl pr : UInt8) (s d : UInt32) (Ap A : Option Addr) (np cp c : Nat) (xs : List UInt8) (a b : UInt16) (g : Bool) (Q1 : List UInt8) (w : World) (hr : Rd bv w w.heap.size A c xs) (h1 : ((pr.toNat : Int) == 1) = false) (h17 : ((pr.toNat : Int) == 17) = true)
    (HP : ∀ A c W, Rd bv W W.heap.size A c xs → Hid (Calls Try.prog 59 #[.int .u32 (s.toNat : Int), .int .u32 (d.toNat : Int), .slice A xs.length c] W fun e w' => ∃ (L1 : List UInt8) (A1 : Option Addr) (c1 : Nat), e = .returned (.tuple #[.agg #[.int .u16 (a.toNat : Int), .int .u16 (b.toNat : Int), .bool g, .slice A1 L1.length c1], .int .i64 0]) ∧ Hid (L1 = Q1) ∧ Rd bv w' w'.heap.size A1 c1 L1 ∧ Below W.heap.size W w')) :
    Calls Try.prog 18 #[.agg #[.int .u8 (tos.toNat : Int), .int .u16 (id.toNat : Int), .bool D, .bool M, .int .u16 (fo.toNat : Int), .int .u8 (ttl.toNat : Int), .int .u8 (pr.toNat : Int), .int .u32 (s.toNat : Int), .int .u32 (d.toNat : Int), .slice Ap np cp, .slice A xs.length c]] w fun e w' => ∃ (L1 : List UInt8) (A1 : Option Addr) (c1 : Nat), e = .returned (.tuple #[.iface 53 (.agg #[.int .u16 (a.toNat : Int), .int .u16 (b.toNat : Int), .bool g, .slice A1 L1.length c1]), .int .i64 0]) ∧ Hid (L1 = Q1) ∧ Rd bv w' w'.heap.size A1 c1 L1 ∧ Below w.heap.size w w' := by
  obtain ⟨W1, hW1⟩ : ∃ W1, W1 = w.alloc (.cells #[.int .u8 (tos.toNat : Int), .int .u16 (id.toNat : Int), .bool D, .bool M, .int .u16 (fo.toNat : Int), .int .u8 (ttl.toNat : Int), .int .u8 (pr.toNat : Int), .int .u32 (s.toNat : Int), .int .u32 (d.toNat : Int), .slice Ap np cp, .slice A xs.length c] 38) := ⟨_, rfl⟩
  have hB : Below w.heap.size w W1 := by subst hW1; exact bnextA (Below.refl _ _) _
  have K1 : Blk W1 w.heap.size [.int .u8 (tos.toNat : Int), .int .u16 (id.toNat : Int), .bool D, .bool M, .int .u16 (fo.toNat : Int), .int .u8 (ttl.toNat : Int), .int .u8 (pr.toNat : Int), .int .u32 (s.toNat : Int), .int .u32 (d.toNat : Int), .slice Ap np cp, .slice A xs.length c] 38 := by subst hW1; exact Blk.new _ _ _
  have hlc := hr.len
  have hcc := hr.cap
  replace hr := hr.next hB
  obtain ⟨p0, p1, p2, p3, p4, p5, p6, p7, p8, p9, p10, -⟩ := K1.get11
  go_enter Try.func18, Try.ntmps18
  go_wp2_with fail
  rw [← hW1]
  clear hW1
  refine (HP _ _ _ hr).out.mono ?_
  rintro e w2 ⟨L1, A1, c1, rfl, HL1, r1, hbel⟩
  replace hB := bnextA (bnext hB hbel) (.cells #[.int .u16 (a.toNat : Int), .int .u16 (b.toNat : Int), .bool g, .slice A1 L1.length c1] 53)
  have KM := Blk.new w2 #[.int .u16 (a.toNat : Int), .int .u16 (b.toNat : Int), .bool g, .slice A1 L1.length c1] 53
  replace r1 := r1.nextA (.cells #[.int .u16 (a.toNat : Int), .int .u16 (b.toNat : Int), .bool g, .slice A1 L1.length c1] 53)
  clear hbel HP hr K1 p0 p1 p2 p3 p4 p5 p6 p7 p8 p9 p10
  obtain ⟨m0, m1, m2, m3, -⟩ := KM.get4
  go_wp2_with fail
  refine (unless_ok _ _).mono ?_
  rintro e w3 ⟨rfl, rfl⟩
  clear KM m0 m1 m2 m3
  go_wp2_with fail
  go_ret2
  exact ⟨L1, A1, c1, rfl, HL1, r1, hB⟩

set_option maxHeartbeats 4000000 in
theorem body_dg_no (tos : UInt8) (id : UInt16) (D M : Bool) (fo : UInt16) (ttl pr : UInt8) (s d : UInt32) (Ap A : Option Addr) (np cp c : Nat) (xs : List UInt8) (a b : UInt16) (g : Bool) (Q1 : List UInt8) (w : World) (hr : Rd bv w w.heap.size A c xs) (h1 : ((pr.toNat : Int) == 1) = false) (h17 : ((pr.toNat : Int) == 17) = true) (er : Int) (he : ((er : Int) != 0) = true)
    (HP : ∀ A c W, Rd bv W W.heap.size A c xs → Hid (Calls Try.prog 59 #[.int .u32 (s.toNat : Int), .int .u32 (d.toNat : Int), .slice A xs.length c] W fun e w' => ∃ (L1 : List UInt8) (A1 : Option Addr) (c1 : Nat), e = .returned (.tuple #[.agg #[.int .u16 (a.toNat : Int), .int .u16 (b.toNat : Int), .bool g, .slice A1 L1.length c1], .int .i64 er]) ∧ Hid (L1 = Q1) ∧ Rd bv w' w'.heap.size A1 c1 L1 ∧ Below W.heap.size W w')) :
    Calls Try.prog 18 #[.agg #[.int .u8 (tos.toNat : Int), .int .u16 (id.toNat : Int), .bool D, .bool M, .int .u16 (fo.toNat : Int), .int .u8 (ttl.toNat : Int), .int .u8 (pr.toNat : Int), .int .u32 (s.toNat : Int), .int .u32 (d.toNat : Int), .slice Ap np cp, .slice A xs.length c]] w fun e w' => e = .returned (.tuple #[.nilIface, .int .i64 er]) ∧ Below w.heap.size w w' := by
  obtain ⟨W1, hW1⟩ : ∃ W1, W1 = w.alloc (.cells #[.int .u8 (tos.toNat : Int), .int .u16 (id.toNat : Int), .bool D, .bool M, .int .u16 (fo.toNat : Int), .int .u8 (ttl.toNat : Int), .int .u8 (pr.toNat : Int), .int .u32 (s.toNat : Int), .int .u32 (d.toNat : Int), .slice Ap np cp, .slice A xs.length c] 38) := ⟨_, rfl⟩
  have hB : Below w.heap.size w W1 := by subst hW1; exact bnextA (Below.refl _ _) _
  have K1 : Blk W1 w.heap.size [.int .u8 (tos.toNat : Int), .int .u16 (id.toNat : Int), .bool D, .bool M, .int .u16 (fo.toNat : Int), .int .u8 (ttl.toNat : Int), .int .u8 (pr.toNat : Int), .int .u32 (s.toNat : Int), .int .u32 (d.toNat : Int), .slice Ap np cp, .slice A xs.length c] 38 := by subst hW1; exact Blk.new _ _ _
  have hlc := hr.len
  have hcc := hr.cap
  replace hr := hr.next hB
  obtain ⟨p0, p1, p2, p3, p4, p5, p6, p7, p8, p9, p10, -⟩ := K1.get11
  go_enter Try.func18, Try.ntmps18
  go_wp2_with fail
  rw [← hW1]
  clear hW1
  refine (HP _ _ _ hr).out.mono ?_
  rintro e w2 ⟨L1, A1, c1, rfl, HL1, r1, hbel⟩
  replace hB := bnextA (bnext hB hbel) (.cells #[.int .u16 (a.toNat : Int), .int .u16 (b.toNat : Int), .bool g, .slice A1 L1.length c1] 53)
  have KM := Blk.new w2 #[.int .u16 (a.toNat : Int), .int .u16 (b.toNat : Int), .bool g, .slice A1 L1.length c1] 53
  replace r1 := r1.nextA (.cells #[.int .u16 (a.toNat : Int), .int .u16 (b.toNat : Int), .bool g, .slice A1 L1.length c1] 53)
  clear hbel HP hr K1 p0 p1 p2 p3 p4 p5 p6 p7 p8 p9 p10
  obtain ⟨m0, m1, m2, m3, -⟩ := KM.get4
  go_wp2_with fail
  refine (unless_no _ er he _).mono ?_
  rintro e w3 ⟨rfl, rfl⟩
  clear KM m0 m1 m2 m3
  go_wp2_with fail
  go_ret2
  exact ⟨rfl, hB⟩

set_option maxHeartbeats 4000000 in
theorem body_sg_ok (tos : UInt8) (id : UInt16) (D M : Bool) (fo : UInt16) (ttl pr : UInt8) (s d : UInt32) (Ap A : Option Addr) (np cp c : Nat) (xs : List UInt8) (sa sb : UInt16) (sq sk : UInt32) (sr sf : UInt8) (sz su : UInt16) (Q1 Q2 : List UInt8) (w : World) (hr : Rd bv w w.heap.size A c xs) (h1 : ((pr.toNat : Int) == 1) = false) (h17 : ((pr.toNat : Int) == 17) = false) (h6 : ((pr.toNat : Int) == 6) = true)
    (HP : ∀ A c W, Rd bv W W.heap.size A c xs → Hid (Calls Try.prog 60 #[.int .u32 (s.toNat : Int), .int .u32 (d.toNat : Int), .slice A xs.length c] W fun e w' => ∃ (L1 : List UInt8) (A1 : Option Addr) (c1 : Nat) (L2 : List UInt8) (A2 : Option Addr) (c2 : Nat), e = .returned (.tuple #[.agg #[.int .u16 (sa.toNat : Int), .int .u16 (sb.toNat : Int), .int .u32 (sq.toNat : Int), .int .u32 (sk.toNat : Int), .int .u8 (sr.toNat : Int), .int .u8 (sf.toNat : Int), .int .u16 (sz.toNat : Int), .int .u16 (su.toNat : Int), .slice A1 L1.length c1, .slice A2 L2.length c2], .int .i64 0]) ∧ Hid (L1 = Q1) ∧ Rd bv w' w'.heap.size A1 c1 L1 ∧ Hid (L2 = Q2) ∧ Rd bv w' w'.heap.size A2 c2 L2 ∧ Below W.heap.size W w')) :
    Calls Try.prog 18 #[.agg #[.int .u8 (tos.toNat : Int), .int .u16 (id.toNat : Int), .bool D, .bool M, .int .u16 (fo.toNat : Int), .int .u8 (ttl.toNat : Int), .int .u8 (pr.toNat : Int), .int .u32 (s.toNat : Int), .int .u32 (d.toNat : Int), .slice Ap np cp, .slice A xs.length c]] w fun e w' => ∃ (L1 : List UInt8) (A1 : Option Addr) (c1 : Nat) (L2 : List UInt8) (A2 : Option Addr) (c2 : Nat), e = .returned (.tuple #[.iface 59 (.agg #[.int .u16 (sa.toNat : Int), .int .u16 (sb.toNat : Int), .int .u32 (sq.toNat : Int), .int .u32 (sk.toNat : Int), .int .u8 (sr.toNat : Int), .int .u8 (sf.toNat : Int), .int .u16 (sz.toNat : Int), .int .u16 (su.toNat : Int), .slice A1 L1.length c1, .slice A2 L2.length c2]), .int .i64 0]) ∧ Hid (L1 = Q1) ∧ Rd bv w' w'.heap.size A1 c1 L1 ∧ Hid (L2 = Q2) ∧ Rd bv w' w'.heap.size A2 c2 L2 ∧ Below w.heap.size w w' := by
  obtain ⟨W1, hW1⟩ : ∃ W1, W1 = w.alloc (.cells #[.int .u8 (tos.toNat : Int), .int .u16 (id.toNat : Int), .bool D, .bool M, .int .u16 (fo.toNat : Int), .int .u8 (ttl.toNat : Int), .int .u8 (pr.toNat : Int), .int .u32 (s.toNat : Int), .int .u32 (d.toNat : Int), .slice Ap np cp, .slice A xs.length c] 38) := ⟨_, rfl⟩
  have hB : Below w.heap.size w W1 := by subst hW1; exact bnextA (Below.refl _ _) _
  have K1 : Blk W1 w.heap.size [.int .u8 (tos.toNat : Int), .int .u16 (id.toNat : Int), .bool D, .bool M, .int .u16 (fo.toNat : Int), .int .u8 (ttl.toNat : Int), .int .u8 (pr.toNat : Int), .int .u32 (s.toNat : Int), .int .u32 (d.toNat : Int), .slice Ap np cp, .slice A xs.length c] 38 := by subst hW1; exact Blk.new _ _ _
  have hlc := hr.len
  have hcc := hr.cap
  replace hr := hr.next hB
  obtain ⟨p0, p1, p2, p3, p4, p5, p6, p7, p8, p9, p10, -⟩ := K1.get11
  go_enter Try.func18, Try.ntmps18
  go_wp2_with fail
  rw [← hW1]
  clear hW1
  refine (HP _ _ _ hr).out.mono ?_
  rintro e w2 ⟨L1, A1, c1, L2, A2, c2, rfl, HL1, r1, HL2, r2, hbel⟩
  replace hB := bnextA (bnext hB hbel) (.cells #[.int .u16 (sa.toNat : Int), .int .u16 (sb.toNat : Int), .int .u32 (sq.toNat : Int), .int .u32 (sk.toNat : Int), .int .u8 (sr.toNat : Int), .int .u8 (sf.toNat : Int), .int .u16 (sz.toNat : Int), .int .u16 (su.toNat : Int), .slice A1 L1.length c1, .slice A2 L2.length c2] 59)
  have KM := Blk.new w2 #[.int .u16 (sa.toNat : Int), .int .u16 (sb.toNat : Int), .int .u32 (sq.toNat : Int), .int .u32 (sk.toNat : Int), .int .u8 (sr.toNat : Int), .int .u8 (sf.toNat : Int), .int .u16 (sz.toNat : Int), .int .u16 (su.toNat : Int), .slice A1 L1.length c1, .slice A2 L2.length c2] 59
  replace r1 := r1.nextA (.cells #[.int .u16 (sa.toNat : Int), .int .u16 (sb.toNat : Int), .int .u32 (sq.toNat : Int), .int .u32 (sk.toNat : Int), .int .u8 (sr.toNat : Int), .int .u8 (sf.toNat : Int), .int .u16 (sz.toNat : Int), .int .u16 (su.toNat : Int), .slice A1 L1.length c1, .slice A2 L2.length c2] 59)
  replace r2 := r2.nextA (.cells #[.int .u16 (sa.toNat : Int), .int .u16 (sb.toNat : Int), .int .u32 (sq.toNat : Int), .int .u32 (sk.toNat : Int), .int .u8 (sr.toNat : Int), .int .u8 (sf.toNat : Int), .int .u16 (sz.toNat : Int), .int .u16 (su.toNat : Int), .slice A1 L1.length c1, .slice A2 L2.length c2] 59)
  clear hbel HP hr K1 p0 p1 p2 p3 p4 p5 p6 p7 p8 p9 p10
  obtain ⟨m0, m1, m2, m3, m4, m5, m6, m7, m8, m9, -⟩ := KM.get10
  go_wp2_with fail
  refine (unless_ok _ _).mono ?_
  rintro e w3 ⟨rfl, rfl⟩
  clear KM m0 m1 m2 m3 m4 m5 m6 m7 m8 m9
  go_wp2_with fail
  go_ret2
  exact ⟨L1, A1, c1, L2, A2, c2, rfl, HL1, r1, HL2, r2, hB⟩

set_option maxHeartbeats 4000000 in
theorem body_sg_no (tos : UInt8) (id : UInt16) (D M : Bool) (fo : UInt16) (ttl pr : UInt8) (s d : UInt32) (Ap A : Option Addr) (np cp c : Nat) (xs : List UInt8) (sa sb : UInt16) (sq sk : UInt32) (sr sf : UInt8) (sz su : UInt16) (Q1 Q2 : List UInt8) (w : World) (hr : Rd bv w w.heap.size A c xs) (h1 : ((pr.toNat : Int) == 1) = false) (h17 : ((pr.toNat : Int) == 17) = false) (h6 : ((pr.toNat : Int) == 6) = true) (er : Int) (he : ((er : Int) != 0) = true)
    (HP : ∀ A c W, Rd bv W W.heap.size A c xs → Hid (Calls Try.prog 60 #[.int .u32 (s.toNat : Int), .int .u32 (d.toNat : Int), .slice A xs.length c] W fun e w' => ∃ (L1 : List UInt8) (A1 : Option Addr) (c1 : Nat) (L2 : List UInt8) (A2 : Option Addr) (c2 : Nat), e = .returned (.tuple #[.agg #[.int .u16 (sa.toNat : Int), .int .u16 (sb.toNat : Int), .int .u32 (sq.toNat : Int), .int .u32 (sk.toNat : Int), .int .u8 (sr.toNat : Int), .int .u8 (sf.toNat : Int), .int .u16 (sz.toNat : Int), .int .u16 (su.toNat : Int), .slice A1 L1.length c1, .slice A2 L2.length c2], .int .i64 er]) ∧ Hid (L1 = Q1) ∧ Rd bv w' w'.heap.size A1 c1 L1 ∧ Hid (L2 = Q2) ∧ Rd bv w' w'.heap.size A2 c2 L2 ∧ Below W.heap.size W w')) :
    Calls Try.prog 18 #[.agg #[.int .u8 (tos.toNat : Int), .int .u16 (id.toNat : Int), .bool D, .bool M, .int .u16 (fo.toNat : Int), .int .u8 (ttl.toNat : Int), .int .u8 (pr.toNat : Int), .int .u32 (s.toNat : Int), .int .u32 (d.toNat : Int), .slice Ap np cp, .slice A xs.length c]] w fun e w' => e = .returned (.tuple #[.nilIface, .int .i64 er]) ∧ Below w.heap.size w w' := by
  obtain ⟨W1, hW1⟩ : ∃ W1, W1 = w.alloc (.cells #[.int .u8 (tos.toNat : Int), .int .u16 (id.toNat : Int), .bool D, .bool M, .int .u16 (fo.toNat : Int), .int .u8 (ttl.toNat : Int), .int .u8 (pr.toNat : Int), .int .u32 (s.toNat : Int), .int .u32 (d.toNat : Int), .slice Ap np cp, .slice A xs.length c] 38) := ⟨_, rfl⟩
  have hB : Below w.heap.size w W1 := by subst hW1; exact bnextA (Below.refl _ _) _
  have K1 : Blk W1 w.heap.size [.int .u8 (tos.toNat : Int), .int .u16 (id.toNat : Int), .bool D, .bool M, .int .u16 (fo.toNat : Int), .int .u8 (ttl.toNat : Int), .int .u8 (pr.toNat : Int), .int .u32 (s.toNat : Int), .int .u32 (d.toNat : Int), .slice Ap np cp, .slice A xs.length c] 38 := by subst hW1; exact Blk.new _ _ _
  have hlc := hr.len
  have hcc := hr.cap
  replace hr := hr.next hB
  obtain ⟨p0, p1, p2, p3, p4, p5, p6, p7, p8, p9, p10, -⟩ := K1.get11
  go_enter Try.func18, Try.ntmps18
  go_wp2_with fail
  rw [← hW1]
  clear hW1
  refine (HP _ _ _ hr).out.mono ?_
  rintro e w2 ⟨L1, A1, c1, L2, A2, c2, rfl, HL1, r1, HL2, r2, hbel⟩
  replace hB := bnextA (bnext hB hbel) (.cells #[.int .u16 (sa.toNat : Int), .int .u16 (sb.toNat : Int), .int .u32 (sq.toNat : Int), .int .u32 (sk.toNat : Int), .int .u8 (sr.toNat : Int), .int .u8 (sf.toNat : Int), .int .u16 (sz.toNat : Int), .int .u16 (su.toNat : Int), .slice A1 L1.length c1, .slice A2 L2.length c2] 59)
  have KM := Blk.new w2 #[.int .u16 (sa.toNat : Int), .int .u16 (sb.toNat : Int), .int .u32 (sq.toNat : Int), .int .u32 (sk.toNat : Int), .int .u8 (sr.toNat : Int), .int .u8 (sf.toNat : Int), .int .u16 (sz.toNat : Int), .int .u16 (su.toNat : Int), .slice A1 L1.length c1, .slice A2 L2.length c2] 59
  replace r1 := r1.nextA (.cells #[.int .u16 (sa.toNat : Int), .int .u16 (sb.toNat : Int), .int .u32 (sq.toNat : Int), .int .u32 (sk.toNat : Int), .int .u8 (sr.toNat : Int), .int .u8 (sf.toNat : Int), .int .u16 (sz.toNat : Int), .int .u16 (su.toNat : Int), .slice A1 L1.length c1, .slice A2 L2.length c2] 59)
  replace r2 := r2.nextA (.cells #[.int .u16 (sa.toNat : Int), .int .u16 (sb.toNat : Int), .int .u32 (sq.toNat : Int), .int .u32 (sk.toNat : Int), .int .u8 (sr.toNat : Int), .int .u8 (sf.toNat : Int), .int .u16 (sz.toNat : Int), .int .u16 (su.toNat : Int), .slice A1 L1.length c1, .slice A2 L2.length c2] 59)
  clear hbel HP hr K1 p0 p1 p2 p3 p4 p5 p6 p7 p8 p9 p10
  obtain ⟨m0, m1, m2, m3, m4, m5, m6, m7, m8, m9, -⟩ := KM.get10
  go_wp2_with fail
  refine (unless_no _ er he _).mono ?_
  rintro e w3 ⟨rfl, rfl⟩
  clear KM m0 m1 m2 m3 m4 m5 m6 m7 m8 m9
  go_wp2_with fail
  go_ret2
  exact ⟨rfl, hB⟩

set_option maxHeartbeats 2000000 in
theorem body_form (tos : UInt8) (id : UInt16) (D M : Bool) (fo : UInt16) (ttl pr : UInt8) (s d : UInt32) (Ap A : Option Addr) (np cp c : Nat) (xs : List UInt8) (w : World) (h1 : ((pr.toNat : Int) == 1) = false) (h17 : ((pr.toNat : Int) == 17) = false) (h6 : ((pr.toNat : Int) == 6) = false) :
    Calls Try.prog 18 #[.agg #[.int .u8 (tos.toNat : Int), .int .u16 (id.toNat : Int), .bool D, .bool M, .int .u16 (fo.toNat : Int), .int .u8 (ttl.toNat : Int), .int .u8 (pr.toNat : Int), .int .u32 (s.toNat : Int), .int .u32 (d.toNat : Int), .slice Ap np cp, .slice A xs.length c]] w fun e w' => e = .returned (.tuple #[.nilIface, .int .i64 3]) ∧ Below w.heap.size w w' := by
  go_enter Try.func18, Try.ntmps18
  go_wp2_with fail
  go_ret2
  exact ⟨rfl, bnextA (Below.refl _ _) _⟩
end Go.Proofs.Ytkoamiefombilaa
