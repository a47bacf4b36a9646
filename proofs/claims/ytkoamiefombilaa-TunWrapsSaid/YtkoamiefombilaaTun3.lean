/- Contracts of the reference's Wrap, and of both Opens. -/
import Derived.Test.YtkoamiefombilaaTun1
namespace Go.Proofs.Ytkoamiefombilaa
open Go.RowKit

set_option maxHeartbeats 4000000 in
theorem rwrap_bad (cs : Array Value) (_hcz : cs.size = 40) (b1 : UInt32) (_h13 : cs.toList[13]? = some (.int .u32 (b1.toNat : Int))) (mtu : Int) (_h17 : cs.toList[17]? = some (.int .i64 mtu)) (to : UInt32) (nid : UInt16) (e0 : Int) (he : ((e0 : Int) != 0) = true) (A : Option Addr) (c : Nat) (xs : List UInt8) (w : World) (hr : Rd bv w w.heap.size A c xs) (HP : ∀ W, Rd bv W W.heap.size A c xs → Hid (Calls Try.prog 85 #[.slice A xs.length c] W fun e w' => e = .returned (.tuple #[.agg #[.int .u8 0, .int .u16 0, .bool false, .bool false, .int .u16 0, .int .u8 0, .int .u8 0, .int .u32 0, .int .u32 0, .slice none 0 0, .slice none 0 0], .int .i64 e0]) ∧ Below W.heap.size W w')) :
    Calls Try.prog 34 #[.agg cs, .slice A xs.length c, .int .u32 (to.toNat : Int), .int .u16 (nid.toNat : Int)] w fun e w' => e = .returned (.tuple #[.agg #[.int .u8 0, .int .u16 0, .bool false, .bool false, .int .u16 0, .int .u8 0, .int .u8 0, .int .u32 0, .int .u32 0, .slice none 0 0, .slice none 0 0], .int .i64 e0]) ∧ Below w.heap.size w w' := by
  have HO := fun W g => Lib.hid (own_bad e0 he A c xs W (HP W g))
  have hlc := hr.len
  have hcc := hr.cap
  obtain ⟨W1, hW1⟩ : ∃ W1, W1 = (w.alloc (.cells cs 79)).alloc (.cells #[.int .u8 0, .int .u16 0, .bool false, .bool false, .int .u16 0, .int .u8 0, .int .u8 0, .int .u32 0, .int .u32 0, .slice none 0 0, .slice none 0 0] 38) := ⟨_, rfl⟩
  have hB : Below w.heap.size w W1 := by subst hW1; exact bnextA (bnextA (Below.refl _ _) _) _
  have KC : Blk W1 w.heap.size cs.toList 79 := by subst hW1; exact (Blk.new _ _ _).alloc _
  have KR : Blk W1 (w.heap.size + 1) [.int .u8 0, .int .u16 0, .bool false, .bool false, .int .u16 0, .int .u8 0, .int .u8 0, .int .u32 0, .int .u32 0, .slice none 0 0, .slice none 0 0] 38 := by
    subst hW1
    have := Blk.new (w.alloc (.cells cs 79)) #[.int .u8 0, .int .u16 0, .bool false, .bool false, .int .u16 0, .int .u8 0, .int .u8 0, .int .u32 0, .int .u32 0, .slice none 0 0, .slice none 0 0] 38
    simpa using this
  replace hr := hr.next hB
  clear KC HP
  go_enter Try.func34, Try.ntmps34
  go_wp2_with fail
  rw [← hW1]
  clear hW1
  refine (HO _ hr).out.mono ?_
  rintro e w2 ⟨rfl, hbel⟩
  replace hB := bnext hB hbel
  replace KR := KR.next hbel
  clear hbel HO hr
  obtain ⟨p0, p1, p2, p3, p4, p5, p6, p7, p8, p9, p10, g0, g1, g2, g3, g4, g5, g6, g7, g8, g9, g10⟩ := KR.get11
  go_wp2_with fail
  simp [bodyPost, results, Try.results34, go_sem, *]
  try exact bset11 hB (Nat.le_succ _) (.int .u8 0) (.int .u16 0) (.bool false) (.bool false) (.int .u16 0) (.int .u8 0) (.int .u8 0) (.int .u32 0) (.int .u32 0) (.slice none 0 0) (.slice none 0 0)

set_option maxHeartbeats 8000000 in
set_option maxRecDepth 10000 in
theorem rwrap_big (cs : Array Value) (_hcz : cs.size = 40) (b1 : UInt32) (h13 : cs.toList[13]? = some (.int .u32 (b1.toNat : Int))) (mtu : Int) (h17 : cs.toList[17]? = some (.int .i64 mtu)) (to : UInt32) (nid : UInt16) {m fl al : Nat} {tos : UInt8} {id : UInt16} {D M : Bool} {fo : UInt16} {ttl pr : UInt8} {s d : UInt32} (A : Option Addr) (c : Nat) (xs : List UInt8) (w : World) (hr : Rd bv w w.heap.size A c xs) (hl : xs.length ≤ 1000000) (hk : IpOk xs m fl al tos id D M fo ttl pr s d) (hm : mtu < (al : Int) + 20) :
    Calls Try.prog 34 #[.agg cs, .slice A xs.length c, .int .u32 (to.toNat : Int), .int .u16 (nid.toNat : Int)] w fun e w' => e = .returned (.tuple #[.agg #[.int .u8 0, .int .u16 0, .bool false, .bool false, .int .u16 0, .int .u8 0, .int .u8 0, .int .u32 0, .int .u32 0, .slice none 0 0, .slice none 0 0], .int .i64 14]) ∧ Below w.heap.size w w' := by
  have hlc := hr.len
  have hcc := hr.cap
  obtain ⟨W1, hW1⟩ : ∃ W1, W1 = (w.alloc (.cells cs 79)).alloc (.cells #[.int .u8 0, .int .u16 0, .bool false, .bool false, .int .u16 0, .int .u8 0, .int .u8 0, .int .u32 0, .int .u32 0, .slice none 0 0, .slice none 0 0] 38) := ⟨_, rfl⟩
  have hB : Below w.heap.size w W1 := by subst hW1; exact bnextA (bnextA (Below.refl _ _) _) _
  have KC : Blk W1 w.heap.size cs.toList 79 := by subst hW1; exact (Blk.new _ _ _).alloc _
  have KR : Blk W1 (w.heap.size + 1) [.int .u8 0, .int .u16 0, .bool false, .bool false, .int .u16 0, .int .u8 0, .int .u8 0, .int .u32 0, .int .u32 0, .slice none 0 0, .slice none 0 0] 38 := by
    subst hW1
    have := Blk.new (w.alloc (.cells cs 79)) #[.int .u8 0, .int .u16 0, .bool false, .bool false, .int .u16 0, .int .u8 0, .int .u8 0, .int .u32 0, .int .u32 0, .slice none 0 0, .slice none 0 0] 38
    simpa using this
  replace hr := hr.next hB
  have h20 := hk.h20
  have hov := hk.hov
  have hla := hk.hla
  have hm5 := hk.hm5
  have HO := fun W (g : Rd bv W W.heap.size A c xs) => Lib.hid (own_ok A c xs W g hl hk)
  clear hk
  go_enter Try.func34, Try.ntmps34
  go_wp2_with fail
  rw [← hW1]
  clear hW1
  refine (HO _ hr).out.mono ?_
  rintro e w2 ⟨L, A3, c3, rfl, HL, r3, hbel⟩
  have hLl : L.length = al := by rw [HL.out, List.length_take]; omega
  replace hB := bnext hB hbel
  replace KR := KR.next hbel
  replace KC := KC.next hbel
  clear hbel HO hr
  have c13 := (KC.cell 13).trans h13
  have c17 := (KC.cell 17).trans h17
  have wa : IntKind.i64.wrap ((L.length : Int) + 20) = (al : Int) + 20 := by rw [hLl, IntKind.wrap_i64]; omega
  have hd1 : decide ((al : Int) + 20 > mtu) = true := by simp; omega
  have hd2 : decide (mtu < (al : Int) + 20) = true := by simp; omega
  obtain ⟨p0, p1, p2, p3, p4, p5, p6, p7, p8, p9, p10, g0, g1, g2, g3, g4, g5, g6, g7, g8, g9, g10⟩ := KR.get11
  go_wp2_with fail
  simp [bodyPost, results, Try.results34, go_sem, *]
  try exact bset11 hB (Nat.le_succ _) (.int .u8 0) (.int .u16 0) (.bool false) (.bool false) (.int .u16 0) (.int .u8 0) (.int .u8 0) (.int .u32 0) (.int .u32 0) (.slice none 0 0) (.slice none 0 0)

set_option maxHeartbeats 4000000 in
theorem topen_form (tos : UInt8) (id : UInt16) (D M : Bool) (fo : UInt16) (ttl pr : UInt8) (s d : UInt32) (A1 : Option Addr) (n1 c1 : Nat) (A : Option Addr) (c : Nat) (xs : List UInt8) (w : World) (h4 : ((pr.toNat : Int) != 4) = true) :
    Calls Try.prog 35 #[.agg #[.int .u8 (tos.toNat : Int), .int .u16 (id.toNat : Int), .bool D, .bool M, .int .u16 (fo.toNat : Int), .int .u8 (ttl.toNat : Int), .int .u8 (pr.toNat : Int), .int .u32 (s.toNat : Int), .int .u32 (d.toNat : Int), .slice A1 n1 c1, .slice A xs.length c]] w fun e w' => e = .returned (.tuple #[.slice none 0 0, .int .i64 3]) ∧ Below w.heap.size w w' := by
  go_enter Try.func35, Try.ntmps35
  go_wp2_with fail
  go_ret2
  exact ⟨rfl, bnextA (Below.refl _ _) _⟩

set_option maxHeartbeats 4000000 in
theorem ropen_form (tos : UInt8) (id : UInt16) (D M : Bool) (fo : UInt16) (ttl pr : UInt8) (s d : UInt32) (A1 : Option Addr) (n1 c1 : Nat) (A : Option Addr) (c : Nat) (xs : List UInt8) (w : World) (h4 : ((pr.toNat : Int) != 4) = true) :
    Calls Try.prog 36 #[.agg #[.int .u8 (tos.toNat : Int), .int .u16 (id.toNat : Int), .bool D, .bool M, .int .u16 (fo.toNat : Int), .int .u8 (ttl.toNat : Int), .int .u8 (pr.toNat : Int), .int .u32 (s.toNat : Int), .int .u32 (d.toNat : Int), .slice A1 n1 c1, .slice A xs.length c]] w fun e w' => e = .returned (.tuple #[.slice none 0 0, .int .i64 3]) ∧ Below w.heap.size w w' := by
  go_enter Try.func36, Try.ntmps36
  go_wp2_with fail
  go_ret2
  exact ⟨rfl, bnextA (Below.refl _ _) _⟩

set_option maxHeartbeats 4000000 in
theorem topen_part (tos : UInt8) (id : UInt16) (D M : Bool) (fo : UInt16) (ttl pr : UInt8) (s d : UInt32) (A1 : Option Addr) (n1 c1 : Nat) (A : Option Addr) (c : Nat) (xs : List UInt8) (w : World) (h4 : ((pr.toNat : Int) != 4) = false) (hp : partB M fo = true) :
    Calls Try.prog 35 #[.agg #[.int .u8 (tos.toNat : Int), .int .u16 (id.toNat : Int), .bool D, .bool M, .int .u16 (fo.toNat : Int), .int .u8 (ttl.toNat : Int), .int .u8 (pr.toNat : Int), .int .u32 (s.toNat : Int), .int .u32 (d.toNat : Int), .slice A1 n1 c1, .slice A xs.length c]] w fun e w' => e = .returned (.tuple #[.slice none 0 0, .int .i64 11]) ∧ Below w.heap.size w w' := by
  have HQ := fun W => Lib.hid (ppart_any tos id D M fo ttl pr s d A1 A n1 c1 xs.length c W)
  rw [hp] at HQ
  go_enter Try.func35, Try.ntmps35
  go_wp2_with fail
  refine (HQ _).out.mono ?_
  rintro e w2 ⟨rfl, hbel⟩
  have hB := bnext (bnextA (Below.refl w.heap.size w) _) hbel
  clear hbel HQ
  go_wp2_with fail
  go_ret2
  exact ⟨rfl, hB⟩

set_option maxHeartbeats 4000000 in
theorem topen_bad (tos : UInt8) (id : UInt16) (D M : Bool) (fo : UInt16) (ttl pr : UInt8) (s d : UInt32) (A1 : Option Addr) (n1 c1 : Nat) (A : Option Addr) (c : Nat) (xs : List UInt8) (w : World) (hr : Rd bv w w.heap.size A c xs) (h4 : ((pr.toNat : Int) != 4) = false) (hp : partB M fo = false) (e0 : Int) (he : ((e0 : Int) != 0) = true) (HP : ∀ W, Rd bv W W.heap.size A c xs → Hid (Calls Try.prog 42 #[.slice A xs.length c] W fun e w' => e = .returned (.tuple #[.agg #[.int .u8 0, .int .u16 0, .bool false, .bool false, .int .u16 0, .int .u8 0, .int .u8 0, .int .u32 0, .int .u32 0, .slice none 0 0, .slice none 0 0], .int .i64 e0]) ∧ Below W.heap.size W w')) :
    Calls Try.prog 35 #[.agg #[.int .u8 (tos.toNat : Int), .int .u16 (id.toNat : Int), .bool D, .bool M, .int .u16 (fo.toNat : Int), .int .u8 (ttl.toNat : Int), .int .u8 (pr.toNat : Int), .int .u32 (s.toNat : Int), .int .u32 (d.toNat : Int), .slice A1 n1 c1, .slice A xs.length c]] w fun e w' => e = .returned (.tuple #[.slice none 0 0, .int .i64 e0]) ∧ Below w.heap.size w w' := by
  have HQ := fun W => Lib.hid (ppart_any tos id D M fo ttl pr s d A1 A n1 c1 xs.length c W)
  rw [hp] at HQ
  obtain ⟨W1, hW1⟩ : ∃ W1, W1 = w.alloc (.cells #[.int .u8 (tos.toNat : Int), .int .u16 (id.toNat : Int), .bool D, .bool M, .int .u16 (fo.toNat : Int), .int .u8 (ttl.toNat : Int), .int .u8 (pr.toNat : Int), .int .u32 (s.toNat : Int), .int .u32 (d.toNat : Int), .slice A1 n1 c1, .slice A xs.length c] 38) := ⟨_, rfl⟩
  have hB : Below w.heap.size w W1 := by subst hW1; exact bnextA (Below.refl _ _) _
  have K1 : Blk W1 w.heap.size [.int .u8 (tos.toNat : Int), .int .u16 (id.toNat : Int), .bool D, .bool M, .int .u16 (fo.toNat : Int), .int .u8 (ttl.toNat : Int), .int .u8 (pr.toNat : Int), .int .u32 (s.toNat : Int), .int .u32 (d.toNat : Int), .slice A1 n1 c1, .slice A xs.length c] 38 := by subst hW1; exact Blk.new _ _ _
  have hlc := hr.len
  have hcc := hr.cap
  replace hr := hr.next hB
  obtain ⟨p0, p1, p2, p3, p4, p5, p6, p7, p8, p9, p10, -⟩ := K1.get11
  go_enter Try.func35, Try.ntmps35
  go_wp2_with fail
  rw [← hW1]
  clear hW1
  refine (HQ _).out.mono ?_
  rintro e w2 ⟨rfl, hbel⟩
  replace hB := bnext hB hbel
  replace K1 := K1.next hbel
  replace hr := hr.next hbel
  clear hbel HQ p0 p1 p2 p3 p4 p5 p6 p7 p8 p9 p10
  obtain ⟨p0, p1, p2, p3, p4, p5, p6, p7, p8, p9, p10, -⟩ := K1.get11
  go_wp2_with fail
  refine (HP _ hr).out.mono ?_
  rintro e w3 ⟨rfl, hbel⟩
  replace hB := bnext hB hbel
  clear hbel HP hr K1 p0 p1 p2 p3 p4 p5 p6 p7 p8 p9 p10
  go_wp2_with fail
  go_ret2
  exact ⟨rfl, bnextA hB _⟩

set_option maxHeartbeats 4000000 in
theorem topen_ok (tos : UInt8) (id : UInt16) (D M : Bool) (fo : UInt16) (ttl pr : UInt8) (s d : UInt32) (A1 : Option Addr) (n1 c1 : Nat) (A : Option Addr) (c : Nat) (xs : List UInt8) (w : World) (hr : Rd bv w w.heap.size A c xs) (h4 : ((pr.toNat : Int) != 4) = false) (hp : partB M fo = false) {m fl al : Nat} {jtos : UInt8} {jid : UInt16} {jD jM : Bool} {jfo : UInt16} {jttl jpr : UInt8} {js jd : UInt32} (hl : xs.length ≤ 1000000) (hk : IpOk xs m fl al jtos jid jD jM jfo jttl jpr js jd) :
    Calls Try.prog 35 #[.agg #[.int .u8 (tos.toNat : Int), .int .u16 (id.toNat : Int), .bool D, .bool M, .int .u16 (fo.toNat : Int), .int .u8 (ttl.toNat : Int), .int .u8 (pr.toNat : Int), .int .u32 (s.toNat : Int), .int .u32 (d.toNat : Int), .slice A1 n1 c1, .slice A xs.length c]] w fun e w' => ∃ L A1 c1, e = .returned (.tuple #[.slice A1 L.length c1, .int .i64 0]) ∧ Hid (L = xs.take al) ∧ Rd bv w' w'.heap.size A1 c1 L ∧ Below w.heap.size w w' := by
  have HQ := fun W => Lib.hid (ppart_any tos id D M fo ttl pr s d A1 A n1 c1 xs.length c W)
  rw [hp] at HQ
  have hov := hk.hov
  have hm5 := hk.hm5
  have hm15 := hk.hm15
  have hla := hk.hla
  have hlL := hk.hl
  have HP := fun W (g : Rd bv W W.heap.size A c xs) => Lib.hid (hk.parse hl A c W g)
  have HW0 : ∀ W Ao co n1 Ax cx n2 (_ : n1 = 4 * m - 20) (_ : n2 = al - 4 * m), Rd bv W W.heap.size A c xs → Hid (Calls Try.prog 64 #[.agg #[.int .u8 (jtos.toNat : Int), .int .u16 (jid.toNat : Int), .bool jD, .bool jM, .int .u16 (jfo.toNat : Int), .int .u8 (jttl.toNat : Int), .int .u8 (jpr.toNat : Int), .int .u32 (js.toNat : Int), .int .u32 (jd.toNat : Int), .slice Ao n1 co, .slice Ax n2 cx], .slice A xs.length c] W fun e w' => ∃ L A1 c1, e = .returned (.slice A1 L.length c1) ∧ Hid (L = xs.take al) ∧ Rd bv w' w'.heap.size A1 c1 L ∧ Below W.heap.size W w') := by
    intro W Ao co n1 Ax cx n2 h1 h2 g
    exact Lib.hid (twhole_any jtos jid jD jM jfo jttl jpr js jd Ao Ax n1 co n2 cx A c xs al W g (by omega) (by omega) hov hl)
  clear hk
  obtain ⟨W1, hW1⟩ : ∃ W1, W1 = w.alloc (.cells #[.int .u8 (tos.toNat : Int), .int .u16 (id.toNat : Int), .bool D, .bool M, .int .u16 (fo.toNat : Int), .int .u8 (ttl.toNat : Int), .int .u8 (pr.toNat : Int), .int .u32 (s.toNat : Int), .int .u32 (d.toNat : Int), .slice A1 n1 c1, .slice A xs.length c] 38) := ⟨_, rfl⟩
  have hB : Below w.heap.size w W1 := by subst hW1; exact bnextA (Below.refl _ _) _
  have K1 : Blk W1 w.heap.size [.int .u8 (tos.toNat : Int), .int .u16 (id.toNat : Int), .bool D, .bool M, .int .u16 (fo.toNat : Int), .int .u8 (ttl.toNat : Int), .int .u8 (pr.toNat : Int), .int .u32 (s.toNat : Int), .int .u32 (d.toNat : Int), .slice A1 n1 c1, .slice A xs.length c] 38 := by subst hW1; exact Blk.new _ _ _
  have hlc := hr.len
  have hcc := hr.cap
  replace hr := hr.next hB
  obtain ⟨p0, p1, p2, p3, p4, p5, p6, p7, p8, p9, p10, -⟩ := K1.get11
  go_enter Try.func35, Try.ntmps35
  go_wp2_with fail
  rw [← hW1]
  clear hW1
  refine (HQ _).out.mono ?_
  rintro e w2 ⟨rfl, hbel⟩
  replace hB := bnext hB hbel
  replace K1 := K1.next hbel
  replace hr := hr.next hbel
  clear hbel HQ p0 p1 p2 p3 p4 p5 p6 p7 p8 p9 p10
  obtain ⟨p0, p1, p2, p3, p4, p5, p6, p7, p8, p9, p10, -⟩ := K1.get11
  go_wp2_with fail
  refine (HP _ hr).out.mono ?_
  rintro e w3 ⟨Lo, Ao, co, Lx, Ax, cx, rfl, HLo, HLx, -, -, hbel⟩
  have HW := fun W g => HW0 W Ao co Lo.length Ax cx Lx.length (by rw [HLo.out, List.length_take, List.length_drop]; omega) (by rw [HLx.out, List.length_take, List.length_drop]; omega) g
  replace hB := bnextA (bnext hB hbel) (.cells #[.int .u8 (jtos.toNat : Int), .int .u16 (jid.toNat : Int), .bool jD, .bool jM, .int .u16 (jfo.toNat : Int), .int .u8 (jttl.toNat : Int), .int .u8 (jpr.toNat : Int), .int .u32 (js.toNat : Int), .int .u32 (jd.toNat : Int), .slice Ao Lo.length co, .slice Ax Lx.length cx] 38)
  replace K1 := (K1.next hbel).alloc (.cells #[.int .u8 (jtos.toNat : Int), .int .u16 (jid.toNat : Int), .bool jD, .bool jM, .int .u16 (jfo.toNat : Int), .int .u8 (jttl.toNat : Int), .int .u8 (jpr.toNat : Int), .int .u32 (js.toNat : Int), .int .u32 (jd.toNat : Int), .slice Ao Lo.length co, .slice Ax Lx.length cx] 38)
  replace hr := (hr.next hbel).nextA (.cells #[.int .u8 (jtos.toNat : Int), .int .u16 (jid.toNat : Int), .bool jD, .bool jM, .int .u16 (jfo.toNat : Int), .int .u8 (jttl.toNat : Int), .int .u8 (jpr.toNat : Int), .int .u32 (js.toNat : Int), .int .u32 (jd.toNat : Int), .slice Ao Lo.length co, .slice Ax Lx.length cx] 38)
  have KI := Blk.new w3 #[.int .u8 (jtos.toNat : Int), .int .u16 (jid.toNat : Int), .bool jD, .bool jM, .int .u16 (jfo.toNat : Int), .int .u8 (jttl.toNat : Int), .int .u8 (jpr.toNat : Int), .int .u32 (js.toNat : Int), .int .u32 (jd.toNat : Int), .slice Ao Lo.length co, .slice Ax Lx.length cx] 38
  clear hbel HP HW0 HLo HLx p0 p1 p2 p3 p4 p5 p6 p7 p8 p9 p10
  obtain ⟨p0, p1, p2, p3, p4, p5, p6, p7, p8, p9, p10, -⟩ := K1.get11
  obtain ⟨q0, q1, q2, q3, q4, q5, q6, q7, q8, q9, q10, -⟩ := KI.get11
  go_wp2_with fail
  refine (HW _ hr).out.mono ?_
  rintro e w4 ⟨L, A3, c3, rfl, HL, r3, hbel⟩
  replace hB := bnext hB hbel
  clear hbel HW hr K1 KI p0 p1 p2 p3 p4 p5 p6 p7 p8 p9 p10 q0 q1 q2 q3 q4 q5 q6 q7 q8 q9 q10
  go_wp2_with fail
  go_ret2
  exact ⟨L, A3, c3, rfl, HL, r3, hB⟩

set_option maxHeartbeats 4000000 in
theorem ropen_part (tos : UInt8) (id : UInt16) (D M : Bool) (fo : UInt16) (ttl pr : UInt8) (s d : UInt32) (A1 : Option Addr) (n1 c1 : Nat) (A : Option Addr) (c : Nat) (xs : List UInt8) (w : World) (h4 : ((pr.toNat : Int) != 4) = false) (hp : partB M fo = true) :
    Calls Try.prog 36 #[.agg #[.int .u8 (tos.toNat : Int), .int .u16 (id.toNat : Int), .bool D, .bool M, .int .u16 (fo.toNat : Int), .int .u8 (ttl.toNat : Int), .int .u8 (pr.toNat : Int), .int .u32 (s.toNat : Int), .int .u32 (d.toNat : Int), .slice A1 n1 c1, .slice A xs.length c]] w fun e w' => e = .returned (.tuple #[.slice none 0 0, .int .i64 11]) ∧ Below w.heap.size w w' := by
  cases M
  · have hf : 0 < fo.toNat := by
      by_cases h : fo.toNat = 0
      · rw [partB, h] at hp; simp at hp
      · omega
    have hd1 : decide ((fo.toNat : Int) > 0) = true := by simp; omega
    have hd2 : decide (0 < (fo.toNat : Int)) = true := by simp; omega
    go_enter Try.func36, Try.ntmps36
    go_wp2_with fail
    go_ret2
    exact ⟨rfl, bnextA (Below.refl _ _) _⟩
  · skip
    go_enter Try.func36, Try.ntmps36
    go_wp2_with fail
    go_ret2
    exact ⟨rfl, bnextA (Below.refl _ _) _⟩

set_option maxHeartbeats 4000000 in
theorem ropen_bad (tos : UInt8) (id : UInt16) (D M : Bool) (fo : UInt16) (ttl pr : UInt8) (s d : UInt32) (A1 : Option Addr) (n1 c1 : Nat) (A : Option Addr) (c : Nat) (xs : List UInt8) (w : World) (hr : Rd bv w w.heap.size A c xs) (h4 : ((pr.toNat : Int) != 4) = false) (hp : partB M fo = false) (e0 : Int) (he : ((e0 : Int) != 0) = true) (HP : ∀ W, Rd bv W W.heap.size A c xs → Hid (Calls Try.prog 85 #[.slice A xs.length c] W fun e w' => e = .returned (.tuple #[.agg #[.int .u8 0, .int .u16 0, .bool false, .bool false, .int .u16 0, .int .u8 0, .int .u8 0, .int .u32 0, .int .u32 0, .slice none 0 0, .slice none 0 0], .int .i64 e0]) ∧ Below W.heap.size W w')) :
    Calls Try.prog 36 #[.agg #[.int .u8 (tos.toNat : Int), .int .u16 (id.toNat : Int), .bool D, .bool M, .int .u16 (fo.toNat : Int), .int .u8 (ttl.toNat : Int), .int .u8 (pr.toNat : Int), .int .u32 (s.toNat : Int), .int .u32 (d.toNat : Int), .slice A1 n1 c1, .slice A xs.length c]] w fun e w' => e = .returned (.tuple #[.slice none 0 0, .int .i64 e0]) ∧ Below w.heap.size w w' := by
  have hM : M = false := by cases M <;> simp_all [partB]
  subst hM
  have hf : fo.toNat = 0 := by
    by_cases h : fo.toNat = 0
    · exact h
    · rw [partB] at hp; simp at hp; omega
  have hd1 : decide ((fo.toNat : Int) > 0) = false := by simp; omega
  have hd2 : decide (0 < (fo.toNat : Int)) = false := by simp; omega
  have hf0 : ¬ 0 < fo.toNat := by omega
  clear hf
  have HO := fun W g => Lib.hid (own_bad e0 he A c xs W (HP W g))
  clear HP
  obtain ⟨W1, hW1⟩ : ∃ W1, W1 = w.alloc (.cells #[.int .u8 (tos.toNat : Int), .int .u16 (id.toNat : Int), .bool D, .bool false, .int .u16 (fo.toNat : Int), .int .u8 (ttl.toNat : Int), .int .u8 (pr.toNat : Int), .int .u32 (s.toNat : Int), .int .u32 (d.toNat : Int), .slice A1 n1 c1, .slice A xs.length c] 38) := ⟨_, rfl⟩
  have hB : Below w.heap.size w W1 := by subst hW1; exact bnextA (Below.refl _ _) _
  have K1 : Blk W1 w.heap.size [.int .u8 (tos.toNat : Int), .int .u16 (id.toNat : Int), .bool D, .bool false, .int .u16 (fo.toNat : Int), .int .u8 (ttl.toNat : Int), .int .u8 (pr.toNat : Int), .int .u32 (s.toNat : Int), .int .u32 (d.toNat : Int), .slice A1 n1 c1, .slice A xs.length c] 38 := by subst hW1; exact Blk.new _ _ _
  have hlc := hr.len
  have hcc := hr.cap
  replace hr := hr.next hB
  obtain ⟨p0, p1, p2, p3, p4, p5, p6, p7, p8, p9, p10, -⟩ := K1.get11
  go_enter Try.func36, Try.ntmps36
  go_wp2_with fail
  rw [← hW1]
  clear hW1
  refine (HO _ hr).out.mono ?_
  rintro e w3 ⟨rfl, hbel⟩
  replace hB := bnext hB hbel
  clear hbel HO hr K1 p0 p1 p2 p3 p4 p5 p6 p7 p8 p9 p10
  go_wp2_with fail
  go_ret2
  exact ⟨rfl, hB⟩

set_option maxHeartbeats 4000000 in
theorem ropen_ok (tos : UInt8) (id : UInt16) (D M : Bool) (fo : UInt16) (ttl pr : UInt8) (s d : UInt32) (A1 : Option Addr) (n1 c1 : Nat) (A : Option Addr) (c : Nat) (xs : List UInt8) (w : World) (hr : Rd bv w w.heap.size A c xs) (h4 : ((pr.toNat : Int) != 4) = false) (hp : partB M fo = false) {m fl al : Nat} {jtos : UInt8} {jid : UInt16} {jD jM : Bool} {jfo : UInt16} {jttl jpr : UInt8} {js jd : UInt32} (hl : xs.length ≤ 1000000) (hk : IpOk xs m fl al jtos jid jD jM jfo jttl jpr js jd) :
    Calls Try.prog 36 #[.agg #[.int .u8 (tos.toNat : Int), .int .u16 (id.toNat : Int), .bool D, .bool M, .int .u16 (fo.toNat : Int), .int .u8 (ttl.toNat : Int), .int .u8 (pr.toNat : Int), .int .u32 (s.toNat : Int), .int .u32 (d.toNat : Int), .slice A1 n1 c1, .slice A xs.length c]] w fun e w' => ∃ L A1 c1, e = .returned (.tuple #[.slice A1 L.length c1, .int .i64 0]) ∧ Hid (L = xs.take al) ∧ Rd bv w' w'.heap.size A1 c1 L ∧ Below w.heap.size w w' := by
  have hM : M = false := by cases M <;> simp_all [partB]
  subst hM
  have hf : fo.toNat = 0 := by
    by_cases h : fo.toNat = 0
    · exact h
    · rw [partB] at hp; simp at hp; omega
  have hd1 : decide ((fo.toNat : Int) > 0) = false := by simp; omega
  have hd2 : decide (0 < (fo.toNat : Int)) = false := by simp; omega
  have hf0 : ¬ 0 < fo.toNat := by omega
  clear hf
  have HO := fun W (g : Rd bv W W.heap.size A c xs) => Lib.hid (own_ok A c xs W g hl hk)
  obtain ⟨W1, hW1⟩ : ∃ W1, W1 = w.alloc (.cells #[.int .u8 (tos.toNat : Int), .int .u16 (id.toNat : Int), .bool D, .bool false, .int .u16 (fo.toNat : Int), .int .u8 (ttl.toNat : Int), .int .u8 (pr.toNat : Int), .int .u32 (s.toNat : Int), .int .u32 (d.toNat : Int), .slice A1 n1 c1, .slice A xs.length c] 38) := ⟨_, rfl⟩
  have hB : Below w.heap.size w W1 := by subst hW1; exact bnextA (Below.refl _ _) _
  have K1 : Blk W1 w.heap.size [.int .u8 (tos.toNat : Int), .int .u16 (id.toNat : Int), .bool D, .bool false, .int .u16 (fo.toNat : Int), .int .u8 (ttl.toNat : Int), .int .u8 (pr.toNat : Int), .int .u32 (s.toNat : Int), .int .u32 (d.toNat : Int), .slice A1 n1 c1, .slice A xs.length c] 38 := by subst hW1; exact Blk.new _ _ _
  have hlc := hr.len
  have hcc := hr.cap
  replace hr := hr.next hB
  obtain ⟨p0, p1, p2, p3, p4, p5, p6, p7, p8, p9, p10, -⟩ := K1.get11
  go_enter Try.func36, Try.ntmps36
  go_wp2_with fail
  rw [← hW1]
  clear hW1
  refine (HO _ hr).out.mono ?_
  rintro e w3 ⟨L, A3, c3, rfl, HL, r3, hbel⟩
  replace hB := bnext hB hbel
  clear hbel HO hr K1 p0 p1 p2 p3 p4 p5 p6 p7 p8 p9 p10
  go_wp2_with fail
  go_ret2
  exact ⟨L, A3, c3, rfl, HL, r3, hB⟩

end Go.Proofs.Ytkoamiefombilaa
