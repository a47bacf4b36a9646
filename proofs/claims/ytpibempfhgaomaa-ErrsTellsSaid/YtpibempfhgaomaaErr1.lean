/- Contracts of package errs: Reply, told, TooBig. -/
import Derived.Test.YtpibempfhgaomaaIp8
import Derived.Test.YtpibempfhgaomaaIp9
import Derived.Test.YtpibempfhgaomaaIcmp3
import Derived.Test.YtpibempfhgaomaaReg4
import Derived.Test.YtpibempfhgaomaaReg6
namespace Go.Proofs.Ytpibempfhgaomaa
open Go.RowKit

theorem Rd.othr {α : Type} {f : α → Value} {w : World} {B b off c g : Nat} {xs : List α} (h : Rd f w B (some ⟨b, off, none⟩) c xs) (hne : b ≠ g) (i : Nat) (v : Value) : Rd f (w.setCell ⟨g, i, none⟩ v) B (some ⟨b, off, none⟩) c xs := by
  refine ⟨h.1, h.2.1, h.2.2.1, fun hn => ?_⟩
  obtain ⟨b', off', e, hb, hc⟩ := h.2.2.2 hn
  injection e with e
  injection e with e1 e2 e3
  subst e1 e2
  refine ⟨b, off, rfl, hb, fun j hj => ?_⟩
  rw [← hc j hj]
  unfold World.cell?
  rw [Below.heap_setCell w ⟨g, i, none⟩ v b hne]
/-- A whole block, loaded as a struct by an operation of a plain region. -/
theorem wpList_ldblk {P : Program} {w : World} {g : Nat} {cs : Array Value} {e ty : TypeId} {fs : Array Field} (hu : P.underlying ty = some (.struct fs)) (hi : (P.info? ty).map (·.size) = some cs.size) (h : Blk w g cs.toList e)
    {ops : Array Oper} {rest : List Oper} {a : Act} {Q : Exit → Act → World → Prop} {dst : Option Nat} {tt : TypeId} {pos : String} {after : Array Edge} {x : Operand} (hx : a.eval x = .pointer (some ⟨g, 0, none⟩)) (hK : wpList P ops Q rest (a.put dst (.agg cs)) w) :
    wpList P ops Q (⟨dst, .load ty x, tt, pos, after, none⟩ :: rest) a w := by
  refine wpList_plain rfl fun K hK' => ?_
  have hr := load_blk hu hi h (ev := a.eval) (o := ⟨dst, .load ty x, tt, pos, after, none⟩) rfl hx
  unfold Oper.wp
  simp [hr]
  exact hK' _ _ hK
/-- A row of eight bytes or more isn't the block of a packet with nothing in it. -/
theorem row_not_zero {w : World} {b off c g B : Nat} {e : TypeId} {xs : List UInt8} (h : Rd bv w B (some ⟨b, off, none⟩) c xs) (h8 : 8 ≤ xs.length) (hg : Blk w g [.int .u8 0, .int .u16 0, .bool false, .bool false, .int .u16 0, .int .u8 0, .int .u8 0, .int .u32 0, .int .u32 0, .slice none 0 0, .slice none 0 0] e) : b ≠ g := by
  rintro rfl
  obtain ⟨b1, off1, hA, -, hc⟩ := byt_at h (k := 0) (by omega)
  obtain ⟨rfl, rfl⟩ : b = b1 ∧ off = off1 := by injection hA with hA; injection hA with h1 h2; exact ⟨h1, h2⟩
  by_cases h4 : off ≤ 4
  · have h1 := hc (4 - off) (by omega)
    rw [show off + (4 - off) = 4 by omega, hg.cell] at h1
    cases h1
  · by_cases h7 : off ≤ 7
    · have h1 := hc (7 - off) (by omega)
      rw [show off + (7 - off) = 7 by omega, hg.cell] at h1
      cases h1
    · have h1 := hc 3 (by omega)
      rw [hg.cell, List.getElem?_eq_none (by simp; omega)] at h1
      cases h1


set_option maxHeartbeats 4000000 in
theorem ereply_any (f t : UInt32) (ty co : UInt8) (re : UInt32) (A : Option Addr) (c : Nat) (xs : List UInt8) (w : World) (hr : Rd bv w w.heap.size A c xs) (hl : xs.length ≤ 100000) (N : Nat) (hN : onesN ([ty, co, 0, 0] ++ (be32 re ++ xs)) = N) :
    Calls Try.prog 23 #[.int .u32 (f.toNat : Int), .int .u32 (t.toNat : Int), .agg #[.int .u8 (ty.toNat : Int), .int .u8 (co.toNat : Int), .int .u32 (re.toNat : Int), .slice A xs.length c]] w fun e w' => ∃ L A1 c1, e = .returned (.agg #[.int .u8 0, .int .u16 0, .bool true, .bool false, .int .u16 0, .int .u8 64, .int .u8 1, .int .u32 (f.toNat : Int), .int .u32 (t.toNat : Int), .slice none 0 0, .slice A1 L.length c1]) ∧ Hid (L = [ty, co, UInt8.ofNat ((65535 - N) / 256), UInt8.ofNat ((65535 - N) % 256)] ++ (be32 re ++ xs)) ∧ Rd bv w' w'.heap.size A1 c1 L ∧ Below w.heap.size w w' := by
  obtain ⟨W1, hW1⟩ : ∃ W1, W1 = (w.alloc (.cells #[.int .u8 (ty.toNat : Int), .int .u8 (co.toNat : Int), .int .u32 (re.toNat : Int), .slice A xs.length c] 44)).alloc (.cells #[.int .u8 0, .int .u16 0, .bool false, .bool false, .int .u16 0, .int .u8 0, .int .u8 0, .int .u32 0, .int .u32 0, .slice none 0 0, .slice none 0 0] 36) := ⟨_, rfl⟩
  have hB : Below w.heap.size w W1 := by subst hW1; exact bnextA (bnextA (Below.refl _ _) _) _
  have KI : Blk W1 w.heap.size [.int .u8 (ty.toNat : Int), .int .u8 (co.toNat : Int), .int .u32 (re.toNat : Int), .slice A xs.length c] 44 := by subst hW1; exact (Blk.new _ _ _).alloc _
  have KR : Blk W1 (w.heap.size + 1) [.int .u8 0, .int .u16 0, .bool false, .bool false, .int .u16 0, .int .u8 0, .int .u8 0, .int .u32 0, .int .u32 0, .slice none 0 0, .slice none 0 0] 36 := by
    subst hW1
    have := Blk.new (w.alloc (.cells #[.int .u8 (ty.toNat : Int), .int .u8 (co.toNat : Int), .int .u32 (re.toNat : Int), .slice A xs.length c] 44)) #[.int .u8 0, .int .u16 0, .bool false, .bool false, .int .u16 0, .int .u8 0, .int .u8 0, .int .u32 0, .int .u32 0, .slice none 0 0, .slice none 0 0] 36
    simpa using this
  replace hr := hr.next hB
  have HP := fun W (g : Rd bv W W.heap.size A c xs) => Lib.hid (iput_any ty co re A c xs W g hl N hN)
  obtain ⟨q0, q1, q2, q3, -⟩ := KI.get4
  go_enter Try.func23, Try.ntmps23
  go_wp2_with fail
  rw [← hW1]
  clear hW1
  refine (HP _ hr).out.mono ?_
  rintro e w2 ⟨L, A3, c3, rfl, HL, r3, hbel⟩
  replace hB := bnext hB hbel
  replace KR := KR.next hbel
  clear hbel HP hr KI q0 q1 q2 q3
  have h8 : 8 ≤ L.length := by rw [HL.out]; simp [be32]
  obtain ⟨b3, off3, rfl, -, -⟩ := byt_at r3 (k := 0) (by omega)
  have hne3 := row_not_zero r3 h8 KR
  obtain ⟨p0, p1, p2, p3, p4, p5, p6, p7, p8, p9, p10, g0, g1, g2, g3, g4, g5, g6, g7, g8, g9, g10⟩ := KR.get11
  have r6 := (((((((((((r3.othr hne3 0 (.int .u8 0)).othr hne3 1 (.int .u16 0)).othr hne3 2 (.bool true)).othr hne3 3 (.bool false)).othr hne3 4 (.int .u16 0)).othr hne3 5 (.int .u8 64)).othr hne3 6 (.int .u8 1)).othr hne3 7 (.int .u32 (f.toNat : Int))).othr hne3 8 (.int .u32 (t.toNat : Int))).othr hne3 9 (.slice none 0 0)).othr hne3 10 (.slice (some ⟨b3, off3, none⟩) L.length c3))
  have hB8 := bset11 hB (Nat.le_succ _) (.int .u8 0) (.int .u16 0) (.bool true) (.bool false) (.int .u16 0) (.int .u8 64) (.int .u8 1) (.int .u32 (f.toNat : Int)) (.int .u32 (t.toNat : Int)) (.slice none 0 0) (.slice (some ⟨b3, off3, none⟩) L.length c3)
  simp only [setAll11] at hB8
  clear r3 KR hB h8 hN
  go_wp2_with fail
  simp [bodyPost, results, Try.results23, go_sem, *]
  exact ⟨L, some ⟨b3, off3, none⟩, c3, ⟨rfl, rfl, rfl⟩, HL, by simpa using r6⟩

theorem told_yes (tos : UInt8) (id : UInt16) (D M : Bool) (fo : UInt16) (ttl pr : UInt8) (s d : UInt32) (Ap A : Option Addr) (np cp n c : Nat) (w : World) (h1 : ((pr.toNat : Int) != 1) = true) :
    Calls Try.prog 19 #[.agg #[.int .u8 (tos.toNat : Int), .int .u16 (id.toNat : Int), .bool D, .bool M, .int .u16 (fo.toNat : Int), .int .u8 (ttl.toNat : Int), .int .u8 (pr.toNat : Int), .int .u32 (s.toNat : Int), .int .u32 (d.toNat : Int), .slice Ap np cp, .slice A n c]] w fun e w' => e = .returned (.bool true) ∧ Below w.heap.size w w' := by
  go_enter Try.func19, Try.ntmps19
  go_wp2_with fail
  go_ret
  exact ⟨rfl, bnextA (Below.refl _ _) _⟩

set_option maxHeartbeats 8000000 in
set_option maxRecDepth 10000 in
theorem toobig_no (cs : Array Value) (mtu : Nat) {m fl al : Nat} {tos : UInt8} {id : UInt16} {M : Bool} {fo : UInt16} {ttl pr : UInt8} {s d : UInt32} (A : Option Addr) (c : Nat) (xs : List UInt8) (w : World) (hr : Rd bv w w.heap.size A c xs) (hl : xs.length ≤ 10000) (hk : IpOk xs m fl al tos id false M fo ttl pr s d) :
    Calls Try.prog 7 #[.agg cs, .slice A xs.length c, .int .i64 (mtu : Int)] w fun e w' => e = .returned (.tuple #[.agg #[.int .u8 0, .int .u16 0, .bool false, .bool false, .int .u16 0, .int .u8 0, .int .u8 0, .int .u32 0, .int .u32 0, .slice none 0 0, .slice none 0 0], .bool false]) ∧ Below w.heap.size w w' := by
  have hlc := hr.len
  have hcc := hr.cap
  have h20 := hk.h20
  have hov := hk.hov
  have hm5 := hk.hm5
  have hm15 := hk.hm15
  have hla := hk.hla
  have hlL := hk.hl
  obtain ⟨W1, hW1⟩ : ∃ W1, W1 = (w.alloc (.cells cs 33)).alloc (.cells #[.int .u8 0, .int .u16 0, .bool false, .bool false, .int .u16 0, .int .u8 0, .int .u8 0, .int .u32 0, .int .u32 0, .slice none 0 0, .slice none 0 0] 36) := ⟨_, rfl⟩
  have hB : Below w.heap.size w W1 := by subst hW1; exact bnextA (bnextA (Below.refl _ _) _) _
  have KC : Blk W1 w.heap.size cs.toList 33 := by subst hW1; exact (Blk.new _ _ _).alloc _
  have KR : Blk W1 (w.heap.size + 1) [.int .u8 0, .int .u16 0, .bool false, .bool false, .int .u16 0, .int .u8 0, .int .u8 0, .int .u32 0, .int .u32 0, .slice none 0 0, .slice none 0 0] 36 := by
    subst hW1
    have := Blk.new (w.alloc (.cells cs 33)) #[.int .u8 0, .int .u16 0, .bool false, .bool false, .int .u16 0, .int .u8 0, .int .u8 0, .int .u32 0, .int .u32 0, .slice none 0 0, .slice none 0 0] 36
    simpa using this
  replace hr := hr.next hB
  have HP := fun W (g : Rd bv W W.heap.size A c xs) => Lib.hid (hk.parse (by omega) A c W g)
  go_enter Try.func7, Try.ntmps7
  go_wp2_with fail
  rw [← hW1]
  clear hW1
  refine (HP _ hr).out.mono ?_
  rintro e w2 ⟨Lo, Ao, co, Lx, Ax, cx, rfl, HLo, HLx, -, -, hbel⟩
  replace hB := bnextA (bnext hB hbel) (.cells #[.int .u8 (tos.toNat : Int), .int .u16 (id.toNat : Int), .bool false, .bool M, .int .u16 (fo.toNat : Int), .int .u8 (ttl.toNat : Int), .int .u8 (pr.toNat : Int), .int .u32 (s.toNat : Int), .int .u32 (d.toNat : Int), .slice Ao Lo.length co, .slice Ax Lx.length cx] 36)
  replace KR := (KR.next hbel).alloc (.cells #[.int .u8 (tos.toNat : Int), .int .u16 (id.toNat : Int), .bool false, .bool M, .int .u16 (fo.toNat : Int), .int .u8 (ttl.toNat : Int), .int .u8 (pr.toNat : Int), .int .u32 (s.toNat : Int), .int .u32 (d.toNat : Int), .slice Ao Lo.length co, .slice Ax Lx.length cx] 36)
  have KI := Blk.new w2 #[.int .u8 (tos.toNat : Int), .int .u16 (id.toNat : Int), .bool false, .bool M, .int .u16 (fo.toNat : Int), .int .u8 (ttl.toNat : Int), .int .u8 (pr.toNat : Int), .int .u32 (s.toNat : Int), .int .u32 (d.toNat : Int), .slice Ao Lo.length co, .slice Ax Lx.length cx] 36
  obtain ⟨t0, t1, t2, t3, t4, t5, t6, t7, t8, t9, t10, -⟩ := KI.get11
  clear hbel HP hr KC KI HLo HLx hk h20 hov hm5 hm15 hla hlL
  obtain ⟨p0, p1, p2, p3, p4, p5, p6, p7, p8, p9, p10, g0, g1, g2, g3, g4, g5, g6, g7, g8, g9, g10⟩ := KR.get11
  go_wp2_with fail
  simp [bodyPost, results, Try.results7, go_sem, *]
  try exact bset11 hB (Nat.le_succ _) (.int .u8 0) (.int .u16 0) (.bool false) (.bool false) (.int .u16 0) (.int .u8 0) (.int .u8 0) (.int .u32 0) (.int .u32 0) (.slice none 0 0) (.slice none 0 0)

set_option maxHeartbeats 8000000 in
set_option maxRecDepth 10000 in
theorem toobig_yes (cs : Array Value) (c0 : UInt32) (h12 : cs.toList[12]? = some (.int .u32 (c0.toNat : Int))) (mtu : Nat) (hmtu : mtu ≤ 65535) {m fl al : Nat} {tos : UInt8} {id : UInt16} {M : Bool} {fo : UInt16} {ttl pr : UInt8} {s d : UInt32} (A : Option Addr) (c : Nat) (xs : List UInt8) (w : World) (hr : Rd bv w w.heap.size A c xs) (hl : xs.length ≤ 10000) (hk : IpOk xs m fl al tos id true M fo ttl pr s d) (h1 : ((pr.toNat : Int) != 1) = true) (hall : al = xs.length) (re : UInt32) (hre : re.toNat = mtu) (N : Nat) (hN : onesN ([3, 4, 0, 0] ++ (be32 re ++ xs.take 28)) = N) :
    Calls Try.prog 7 #[.agg cs, .slice A xs.length c, .int .i64 (mtu : Int)] w fun e w' => ∃ L A1 c1, e = .returned (.tuple #[.agg #[.int .u8 0, .int .u16 0, .bool true, .bool false, .int .u16 0, .int .u8 64, .int .u8 1, .int .u32 (c0.toNat : Int), .int .u32 (s.toNat : Int), .slice none 0 0, .slice A1 L.length c1], .bool true]) ∧ Hid (L = [3, 4, UInt8.ofNat ((65535 - N) / 256), UInt8.ofNat ((65535 - N) % 256)] ++ (be32 re ++ xs.take 28)) ∧ Rd bv w' w'.heap.size A1 c1 L ∧ Below w.heap.size w w' := by
  have hlc := hr.len
  have hcc := hr.cap
  have h20 := hk.h20
  have hov := hk.hov
  have hm5 := hk.hm5
  have hm15 := hk.hm15
  have hla := hk.hla
  have hlL := hk.hl
  obtain ⟨W1, hW1⟩ : ∃ W1, W1 = (w.alloc (.cells cs 33)).alloc (.cells #[.int .u8 0, .int .u16 0, .bool false, .bool false, .int .u16 0, .int .u8 0, .int .u8 0, .int .u32 0, .int .u32 0, .slice none 0 0, .slice none 0 0] 36) := ⟨_, rfl⟩
  have hB : Below w.heap.size w W1 := by subst hW1; exact bnextA (bnextA (Below.refl _ _) _) _
  have KC : Blk W1 w.heap.size cs.toList 33 := by subst hW1; exact (Blk.new _ _ _).alloc _
  have KR : Blk W1 (w.heap.size + 1) [.int .u8 0, .int .u16 0, .bool false, .bool false, .int .u16 0, .int .u8 0, .int .u8 0, .int .u32 0, .int .u32 0, .slice none 0 0, .slice none 0 0] 36 := by
    subst hW1
    have := Blk.new (w.alloc (.cells cs 33)) #[.int .u8 0, .int .u16 0, .bool false, .bool false, .int .u16 0, .int .u8 0, .int .u8 0, .int .u32 0, .int .u32 0, .slice none 0 0, .slice none 0 0] 36
    simpa using this
  replace hr := hr.next hB
  have HP := fun W (g : Rd bv W W.heap.size A c xs) => Lib.hid (hk.parse (by omega) A c W g)
  have HT := fun W Ao co n1 Ax cx n2 => Lib.hid (told_yes tos id true M fo ttl pr s d Ao Ax n1 co n2 cx W h1)
  have HZ0 := fun W Ao co n1 Ax cx n2 (h : n1 ≤ 1000000) => Lib.hid (psize_any tos id true M fo ttl pr s d Ao Ax n1 co n2 cx W h)
  have HC : ∀ W, Rd bv W W.heap.size A c xs → Hid (Calls Try.prog 20 #[.slice A xs.length c, .int .i64 0, .int .i64 (al : Int)] W fun e w' => ∃ L A1 c1, e = .returned (.tuple #[.slice A1 L.length c1, .bool true]) ∧ Hid (L = xs.take al) ∧ Rd bv w' w'.heap.size A1 c1 L ∧ Below W.heap.size W w') := by
    intro W g
    refine Lib.hid ((cut_b A c xs 0 al 0 al rfl rfl W g (by omega) (by omega)).mono ?_)
    rintro e w' ⟨v, rfl, ho, hb⟩
    obtain ⟨L, A1, c1, HL, rfl, hrd⟩ := ho.rdv
    exact ⟨L, A1, c1, rfl, HL, hrd, hb⟩
  have htake : xs.take al = xs := by rw [hall, List.take_length]
  obtain ⟨ty, t0⟩ : ∃ a : UInt8, a = 3 := ⟨_, rfl⟩
  obtain ⟨cc, t1⟩ : ∃ a : UInt8, a = 4 := ⟨_, rfl⟩
  have e0 : (ty.toNat : Int) = 3 := by rw [t0]; rfl
  have e1 : (cc.toNat : Int) = 4 := by rw [t1]; rfl
  rw [← t0, ← t1] at hN
  have HF : ∀ W A' c' L, Hid (L = xs.take al) → Rd bv W W.heap.size A' c' L → Hid (Calls Try.prog 22 #[.int .u8 3, .int .u8 4, .int .u32 (re.toNat : Int), .slice A' L.length c'] W fun e w' => ∃ L4 A1 c1, e = .returned (.agg #[.int .u8 3, .int .u8 4, .int .u32 (re.toNat : Int), .slice A1 L4.length c1]) ∧ Hid (L4 = xs.take 28) ∧ Rd bv w' w'.heap.size A1 c1 L4 ∧ Below W.heap.size W w') := by
    intro W A' c' L HL g
    have hL := HL.out
    rw [htake] at hL
    subst hL
    have h := ifailed_any ty cc re A' c' L W g (by omega)
    simp only [e0, e1] at h
    exact Lib.hid h
  have HR : ∀ W A' c' L4, Hid (L4 = xs.take 28) → Rd bv W W.heap.size A' c' L4 → Hid (Calls Try.prog 23 #[.int .u32 (c0.toNat : Int), .int .u32 (s.toNat : Int), .agg #[.int .u8 3, .int .u8 4, .int .u32 (re.toNat : Int), .slice A' L4.length c']] W fun e w' => ∃ L A1 c1, e = .returned (.agg #[.int .u8 0, .int .u16 0, .bool true, .bool false, .int .u16 0, .int .u8 64, .int .u8 1, .int .u32 (c0.toNat : Int), .int .u32 (s.toNat : Int), .slice none 0 0, .slice A1 L.length c1]) ∧ Hid (L = [3, 4, UInt8.ofNat ((65535 - N) / 256), UInt8.ofNat ((65535 - N) % 256)] ++ (be32 re ++ xs.take 28)) ∧ Rd bv w' w'.heap.size A1 c1 L ∧ Below W.heap.size W w') := by
    intro W A' c' L4 HL g
    have hL := HL.out
    have h := ereply_any c0 s ty cc re A' c' L4 W g (by rw [hL]; simp; omega) N (by rw [hL]; exact hN)
    rw [t0, t1] at h
    rw [hL] at h ⊢
    exact Lib.hid h
  have wre : IntKind.u32.wrap (mtu : Int) = (re.toNat : Int) := by rw [IntKind.wrap_u32]; omega
  have hlo : (xs.drop 20).length ≥ 4 * m - 20 := by simp; omega
  have hlx : (xs.drop (4 * m)).length ≥ al - 4 * m := by simp; omega
  clear hk hN htake e0 e1 t0 t1 hre
  go_enter Try.func7, Try.ntmps7
  go_wp2_with fail
  rw [← hW1]
  clear hW1
  refine (HP _ hr).out.mono ?_
  rintro e w2 ⟨Lo, Ao, co, Lx, Ax, cx, rfl, HLo, HLx, -, -, hbel⟩
  have n1 : Lo.length = 4 * m - 20 := by rw [HLo.out, List.length_take]; omega
  have n2 : Lx.length = al - 4 * m := by rw [HLx.out, List.length_take]; omega
  have wa : IntKind.i64.wrap (20 + (Lo.length : Int) + (Lx.length : Int)) = (al : Int) := by rw [n1, n2, IntKind.wrap_i64]; omega
  have HZ := fun W => HZ0 W Ao co Lo.length Ax cx Lx.length (by omega)
  have HT := fun W => HT W Ao co Lo.length Ax cx Lx.length
  replace hB := bnextA (bnext hB hbel) (.cells #[.int .u8 (tos.toNat : Int), .int .u16 (id.toNat : Int), .bool true, .bool M, .int .u16 (fo.toNat : Int), .int .u8 (ttl.toNat : Int), .int .u8 (pr.toNat : Int), .int .u32 (s.toNat : Int), .int .u32 (d.toNat : Int), .slice Ao Lo.length co, .slice Ax Lx.length cx] 36)
  replace KC := (KC.next hbel).alloc (.cells #[.int .u8 (tos.toNat : Int), .int .u16 (id.toNat : Int), .bool true, .bool M, .int .u16 (fo.toNat : Int), .int .u8 (ttl.toNat : Int), .int .u8 (pr.toNat : Int), .int .u32 (s.toNat : Int), .int .u32 (d.toNat : Int), .slice Ao Lo.length co, .slice Ax Lx.length cx] 36)
  replace KR := (KR.next hbel).alloc (.cells #[.int .u8 (tos.toNat : Int), .int .u16 (id.toNat : Int), .bool true, .bool M, .int .u16 (fo.toNat : Int), .int .u8 (ttl.toNat : Int), .int .u8 (pr.toNat : Int), .int .u32 (s.toNat : Int), .int .u32 (d.toNat : Int), .slice Ao Lo.length co, .slice Ax Lx.length cx] 36)
  have KI := Blk.new w2 #[.int .u8 (tos.toNat : Int), .int .u16 (id.toNat : Int), .bool true, .bool M, .int .u16 (fo.toNat : Int), .int .u8 (ttl.toNat : Int), .int .u8 (pr.toNat : Int), .int .u32 (s.toNat : Int), .int .u32 (d.toNat : Int), .slice Ao Lo.length co, .slice Ax Lx.length cx] 36
  replace hr := (hr.next hbel).nextA (.cells #[.int .u8 (tos.toNat : Int), .int .u16 (id.toNat : Int), .bool true, .bool M, .int .u16 (fo.toNat : Int), .int .u8 (ttl.toNat : Int), .int .u8 (pr.toNat : Int), .int .u32 (s.toNat : Int), .int .u32 (d.toNat : Int), .slice Ao Lo.length co, .slice Ax Lx.length cx] 36)
  clear hbel HP HLo HLx hlo hlx n1 n2 HZ0 hall h20 hov hm5 hm15 hla hlL
  obtain ⟨t0, t1, t2, t3, t4, t5, t6, t7, t8, t9, t10, -⟩ := KI.get11
  go_wp2_with fail
  clear t0 t1 t2 t3 t4 t5 t6 t7 t8 t9 t10
  generalize w2.heap.size = gi at *
  generalize w2.alloc (.cells #[.int .u8 (tos.toNat : Int), .int .u16 (id.toNat : Int), .bool true, .bool M, .int .u16 (fo.toNat : Int), .int .u8 (ttl.toNat : Int), .int .u8 (pr.toNat : Int), .int .u32 (s.toNat : Int), .int .u32 (d.toNat : Int), .slice Ao Lo.length co, .slice Ax Lx.length cx] 36) = V0 at *
  refine (HT _).out.mono ?_
  rintro e V ⟨rfl, hbel⟩
  replace hB := bnext hB hbel
  replace KC := KC.next hbel
  replace KR := KR.next hbel
  replace KI := KI.next hbel
  replace hr := hr.next hbel
  clear hbel HT
  have HS : ∀ W, Below V.heap.size V W → (W.cell? ⟨gi, 10, none⟩ = some (.slice Ax Lx.length cx) ∧ W.cell? ⟨gi, 9, none⟩ = some (.slice Ao Lo.length co)) := fun W h => ⟨(KI.next h).cell 10, (KI.next h).cell 9⟩
  go_wp2_with fail
  refine region_put (by kernel_rfl) (by kernel_rfl) (by kernel_rfl) 53 rfl (by kernel_rfl) V (fun i v W => match i with
      | 0 => v = .slice A xs.length c
      | 1 => v = .agg #[.int .u8 (tos.toNat : Int), .int .u16 (id.toNat : Int), .bool true, .bool M, .int .u16 (fo.toNat : Int), .int .u8 (ttl.toNat : Int), .int .u8 (pr.toNat : Int), .int .u32 (s.toNat : Int), .int .u32 (d.toNat : Int), .slice Ao Lo.length co, .slice Ax Lx.length cx]
      | 2 => v = .int .i64 (20 + (Lo.length : Int))
      | 3 => v = .pointer (some ⟨gi, 10, none⟩)
      | 4 => v = .slice Ax Lx.length cx
      | 5 => v = .int .i64 (Lx.length : Int)
      | 6 => v = .int .i64 (al : Int)
      | 7 => ∃ L A c, v = .tuple #[.slice A L.length c, .bool true] ∧ Hid (L = xs.take al) ∧ Rd bv W W.heap.size A c L
      | 8 => ∃ L A c, v = .tuple #[.slice A L.length c, .bool true] ∧ Hid (L = xs.take al) ∧ Rd bv W W.heap.size A c L
      | 9 => ∃ L A c, v = .slice A L.length c ∧ Hid (L = xs.take al) ∧ Rd bv W W.heap.size A c L
      | 10 => v = .bool true
      | 11 => ∃ L A c, v = .slice A L.length c ∧ Hid (L = xs.take al) ∧ Rd bv W W.heap.size A c L
      | 12 => v = .bool true
      | _ => True) (Below.refl _ _) ?_ ?_ ?_
  · intro i v W W' h hb
    match i, h with
    | 0, h => exact h
    | 1, h => exact h
    | 2, h => exact h
    | 3, h => exact h
    | 4, h => exact h
    | 5, h => exact h
    | 6, h => exact h
    | 7, h => obtain ⟨L, A, c, h1, h2, h3⟩ := h; exact ⟨L, A, c, h1, h2, h3.next hb⟩
    | 8, h => obtain ⟨L, A, c, h1, h2, h3⟩ := h; exact ⟨L, A, c, h1, h2, h3.next hb⟩
    | 9, h => obtain ⟨L, A, c, h1, h2, h3⟩ := h; exact ⟨L, A, c, h1, h2, h3.next hb⟩
    | 10, h => exact h
    | 11, h => obtain ⟨L, A, c, h1, h2, h3⟩ := h; exact ⟨L, A, c, h1, h2, h3.next hb⟩
    | 12, h => exact h
    | _ + 13, _ => trivial
  · intro i o uu W hoo hVW hd
    rcases i with _|_|_|_|_|_|_|_|_|_|_|_|_|i
    · obtain rfl := Option.some.inj hoo
      refine .inl ⟨wanted_none rfl, ?_⟩
      generalize hev : Act.eval _ = ev
      have ec : ∀ c, ev (.const c) = c := fun c => by rw [← hev]; rfl
      have e1 : ev (.tmp 1) = .slice A xs.length c := by rw [← hev]; exact eval_old (by kernel_rfl) 53 rfl (by decide) rfl
      clear hev hd
      exact .inl ⟨_, W, by go_simp, rfl, Below.refl _ _⟩
    · obtain rfl := Option.some.inj hoo
      refine .inl ⟨wanted_none rfl, ?_⟩
      generalize hev : Act.eval _ = ev
      have ec : ∀ c, ev (.const c) = c := fun c => by rw [← hev]; rfl
      have e8 : ev (.tmp 8) = .pointer (some ⟨gi, 0, none⟩) := by rw [← hev]; exact eval_old (by kernel_rfl) 53 rfl (by decide) rfl
      clear hev hd
      exact .inl ⟨_, W, load_blk Try.underlying36 (by kernel_rfl) (KI.next hVW) rfl e8, rfl, Below.refl _ _⟩
    · obtain rfl := Option.some.inj hoo
      have q1 : uu 1 = .agg #[.int .u8 (tos.toNat : Int), .int .u16 (id.toNat : Int), .bool true, .bool M, .int .u16 (fo.toNat : Int), .int .u8 (ttl.toNat : Int), .int .u8 (pr.toNat : Int), .int .u32 (s.toNat : Int), .int .u32 (d.toNat : Int), .slice Ao Lo.length co, .slice Ax Lx.length cx] := hd 1 (by kernel_rfl)
      refine .inl ⟨wanted_none rfl, ?_⟩
      generalize hev : Act.eval _ = ev
      have ec : ∀ c, ev (.const c) = c := fun c => by rw [← hev]; rfl
      have ef : ∀ f, ev (.func f) = .func (.func f) #[] #[] := fun f => by rw [← hev]; rfl
      have e33 : ev (.tmp 33) = .agg #[.int .u8 (tos.toNat : Int), .int .u16 (id.toNat : Int), .bool true, .bool M, .int .u16 (fo.toNat : Int), .int .u8 (ttl.toNat : Int), .int .u8 (pr.toNat : Int), .int .u32 (s.toNat : Int), .int .u32 (d.toNat : Int), .slice Ao Lo.length co, .slice Ax Lx.length cx] := by rw [← hev]; exact (eval_put (by kernel_rfl) 53 rfl (by decide)).trans q1
      clear hev hd q1
      exact .inr ⟨_, _, _, by go_simp, (HZ W).out, fun e w' he => ⟨_, he.1, rfl, he.2⟩⟩
    · obtain rfl := Option.some.inj hoo
      refine .inl ⟨wanted_none rfl, ?_⟩
      generalize hev : Act.eval _ = ev
      have ec : ∀ c, ev (.const c) = c := fun c => by rw [← hev]; rfl
      have e8 : ev (.tmp 8) = .pointer (some ⟨gi, 0, none⟩) := by rw [← hev]; exact eval_old (by kernel_rfl) 53 rfl (by decide) rfl
      clear hev hd
      exact .inl ⟨_, W, by go_simp, rfl, Below.refl _ _⟩
    · obtain rfl := Option.some.inj hoo
      have q3 : uu 3 = .pointer (some ⟨gi, 10, none⟩) := hd 3 (by kernel_rfl)
      refine .inl ⟨wanted_none rfl, ?_⟩
      generalize hev : Act.eval _ = ev
      have ec : ∀ c, ev (.const c) = c := fun c => by rw [← hev]; rfl
      have e35 : ev (.tmp 35) = .pointer (some ⟨gi, 10, none⟩) := by rw [← hev]; exact (eval_put (by kernel_rfl) 53 rfl (by decide)).trans q3
      clear hev hd q3
      obtain ⟨cc0, cc1⟩ := HS W hVW
      exact .inl ⟨_, W, by go_simp, rfl, Below.refl _ _⟩
    · obtain rfl := Option.some.inj hoo
      have q4 : uu 4 = .slice Ax Lx.length cx := hd 4 (by kernel_rfl)
      refine .inl ⟨wanted_none rfl, ?_⟩
      generalize hev : Act.eval _ = ev
      have ec : ∀ c, ev (.const c) = c := fun c => by rw [← hev]; rfl
      have e36 : ev (.tmp 36) = .slice Ax Lx.length cx := by rw [← hev]; exact (eval_put (by kernel_rfl) 53 rfl (by decide)).trans q4
      clear hev hd q4
      exact .inl ⟨_, W, by go_simp, rfl, Below.refl _ _⟩
    · obtain rfl := Option.some.inj hoo
      have q2 : uu 2 = .int .i64 (20 + (Lo.length : Int)) := hd 2 (by kernel_rfl)
      have q5 : uu 5 = .int .i64 (Lx.length : Int) := hd 5 (by kernel_rfl)
      refine .inl ⟨wanted_none rfl, ?_⟩
      generalize hev : Act.eval _ = ev
      have ec : ∀ c, ev (.const c) = c := fun c => by rw [← hev]; rfl
      have e34 : ev (.tmp 34) = .int .i64 (20 + (Lo.length : Int)) := by rw [← hev]; exact (eval_put (by kernel_rfl) 53 rfl (by decide)).trans q2
      have e37 : ev (.tmp 37) = .int .i64 (Lx.length : Int) := by rw [← hev]; exact (eval_put (by kernel_rfl) 53 rfl (by decide)).trans q5
      clear hev hd q2 q5
      exact .inl ⟨_, W, by go_simp, rfl, Below.refl _ _⟩
    · obtain rfl := Option.some.inj hoo
      have q0 : uu 0 = .slice A xs.length c := hd 0 (by kernel_rfl)
      have q6 : uu 6 = .int .i64 (al : Int) := hd 6 (by kernel_rfl)
      refine .inl ⟨wanted_none rfl, ?_⟩
      generalize hev : Act.eval _ = ev
      have ec : ∀ c, ev (.const c) = c := fun c => by rw [← hev]; rfl
      have ef : ∀ f, ev (.func f) = .func (.func f) #[] #[] := fun f => by rw [← hev]; rfl
      have e32 : ev (.tmp 32) = .slice A xs.length c := by rw [← hev]; exact (eval_put (by kernel_rfl) 53 rfl (by decide)).trans q0
      have e38 : ev (.tmp 38) = .int .i64 (al : Int) := by rw [← hev]; exact (eval_put (by kernel_rfl) 53 rfl (by decide)).trans q6
      clear hev hd q0 q6
      exact .inr ⟨_, _, _, by go_simp, (HC W (hr.next hVW)).out, fun e w' he => by
        obtain ⟨L, A, c, rfl, HL, hr, hb⟩ := he
        exact ⟨_, rfl, ⟨L, A, c, rfl, HL, hr⟩, hb⟩⟩
    · obtain rfl := Option.some.inj hoo
      obtain ⟨L7, A7, c7, q7, HL7, r7⟩ := hd 7 (by kernel_rfl)
      refine .inl ⟨wanted_none rfl, ?_⟩
      generalize hev : Act.eval _ = ev
      have ec : ∀ c, ev (.const c) = c := fun c => by rw [← hev]; rfl
      have e39 : ev (.tmp 39) = .tuple #[.slice A7 L7.length c7, .bool true] := by rw [← hev]; exact (eval_put (by kernel_rfl) 53 rfl (by decide)).trans q7
      clear hev hd q7
      exact .inl ⟨_, W, by go_simp, ⟨L7, A7, c7, rfl, HL7, r7⟩, Below.refl _ _⟩
    · obtain rfl := Option.some.inj hoo
      obtain ⟨L8, A8, c8, q8, HL8, r8⟩ := hd 8 (by kernel_rfl)
      refine .inl ⟨wanted_none rfl, ?_⟩
      generalize hev : Act.eval _ = ev
      have ec : ∀ c, ev (.const c) = c := fun c => by rw [← hev]; rfl
      have e31 : ev (.tmp 31) = .tuple #[.slice A8 L8.length c8, .bool true] := by rw [← hev]; exact (eval_put (by kernel_rfl) 53 rfl (by decide)).trans q8
      clear hev hd q8
      exact .inl ⟨_, W, by go_simp, ⟨L8, A8, c8, rfl, HL8, r8⟩, Below.refl _ _⟩
    · obtain rfl := Option.some.inj hoo
      obtain ⟨L8, A8, c8, q8, HL8, r8⟩ := hd 8 (by kernel_rfl)
      refine .inl ⟨wanted_none rfl, ?_⟩
      generalize hev : Act.eval _ = ev
      have ec : ∀ c, ev (.const c) = c := fun c => by rw [← hev]; rfl
      have e31 : ev (.tmp 31) = .tuple #[.slice A8 L8.length c8, .bool true] := by rw [← hev]; exact (eval_put (by kernel_rfl) 53 rfl (by decide)).trans q8
      clear hev hd q8
      exact .inl ⟨_, W, by go_simp, rfl, Below.refl _ _⟩
    · obtain rfl := Option.some.inj hoo
      obtain ⟨L9, A9, c9, q9, HL9, r9⟩ := hd 9 (by kernel_rfl)
      refine .inl ⟨wanted_none rfl, ?_⟩
      generalize hev : Act.eval _ = ev
      have ec : ∀ c, ev (.const c) = c := fun c => by rw [← hev]; rfl
      have e40 : ev (.tmp 40) = .slice A9 L9.length c9 := by rw [← hev]; exact (eval_put (by kernel_rfl) 53 rfl (by decide)).trans q9
      clear hev hd q9
      exact .inl ⟨_, W, by go_simp, ⟨L9, A9, c9, rfl, HL9, r9⟩, Below.refl _ _⟩
    · obtain rfl := Option.some.inj hoo
      have q10 : uu 10 = .bool true := hd 10 (by kernel_rfl)
      refine .inl ⟨wanted_none rfl, ?_⟩
      generalize hev : Act.eval _ = ev
      have ec : ∀ c, ev (.const c) = c := fun c => by rw [← hev]; rfl
      have e41 : ev (.tmp 41) = .bool true := by rw [← hev]; exact (eval_put (by kernel_rfl) 53 rfl (by decide)).trans q10
      clear hev hd q10
      exact .inl ⟨_, W, by go_simp, rfl, Below.refl _ _⟩
    · simp at hoo
  · intro uu W hVW hall
    have q11 : ∃ L A c, uu 11 = .slice A L.length c ∧ Hid (L = xs.take al) ∧ Rd bv W W.heap.size A c L := hall 11 (by decide)
    obtain ⟨L3, A3, c3, q11, HL3, r3⟩ := q11
    replace hB := hB.trans (hVW.mono hB.size)
    replace KC := KC.next hVW
    replace KR := KR.next hVW
    replace KI := KI.next hVW
    clear hall HS HC HZ hVW hr
    simp only [putAll, Act.put, Nat.reduceAdd, q11]
    simp only [List.setIfInBounds_toArray, List.set_cons_succ, List.set_cons_zero]
    clear q11
    generalize W = V1 at *
    go_wp2_with fail
    refine (HF _ _ _ _ HL3 r3).out.mono ?_
    rintro e w4 ⟨L4, A4, c4, rfl, HL4, r4, hbel⟩
    replace hB := bnextA (bnext hB hbel) (.cells #[.int .u8 3, .int .u8 4, .int .u32 (re.toNat : Int), .slice A4 L4.length c4] 44)
    replace KC := (KC.next hbel).alloc (.cells #[.int .u8 3, .int .u8 4, .int .u32 (re.toNat : Int), .slice A4 L4.length c4] 44)
    replace KR := (KR.next hbel).alloc (.cells #[.int .u8 3, .int .u8 4, .int .u32 (re.toNat : Int), .slice A4 L4.length c4] 44)
    replace KI := (KI.next hbel).alloc (.cells #[.int .u8 3, .int .u8 4, .int .u32 (re.toNat : Int), .slice A4 L4.length c4] 44)
    replace r4 := r4.nextA (.cells #[.int .u8 3, .int .u8 4, .int .u32 (re.toNat : Int), .slice A4 L4.length c4] 44)
    have KM := Blk.new w4 #[.int .u8 3, .int .u8 4, .int .u32 (re.toNat : Int), .slice A4 L4.length c4] 44
    clear hbel HF r3
    obtain ⟨q0, q1, q2, q3, -⟩ := KM.get4
    have c12 := (KC.cell 12).trans h12
    have i7 := KI.cell 7
    simp only [List.getElem?_cons_succ, List.getElem?_cons_zero] at i7
    go_wp2_with fail
    refine (HR _ _ _ _ HL4 r4).out.mono ?_
    rintro e w5 ⟨L5, A5, c5, rfl, HL5, r5, hbel⟩
    replace hB := bnext hB hbel
    replace KR := KR.next hbel
    clear hbel HR r4 KM KC KI q0 q1 q2 q3 c12 i7 h12
    have h8 : 8 ≤ L5.length := by rw [HL5.out]; simp [be32]
    obtain ⟨b5, off5, rfl, -, -⟩ := byt_at r5 (k := 0) (by omega)
    have hne5 := row_not_zero r5 h8 KR
    obtain ⟨p0, p1, p2, p3, p4, p5, p6, p7, p8, p9, p10, g0, g1, g2, g3, g4, g5, g6, g7, g8, g9, g10⟩ := KR.get11
    have r6 := (((((((((((r5.othr hne5 0 (.int .u8 0)).othr hne5 1 (.int .u16 0)).othr hne5 2 (.bool true)).othr hne5 3 (.bool false)).othr hne5 4 (.int .u16 0)).othr hne5 5 (.int .u8 64)).othr hne5 6 (.int .u8 1)).othr hne5 7 (.int .u32 (c0.toNat : Int))).othr hne5 8 (.int .u32 (s.toNat : Int))).othr hne5 9 (.slice none 0 0)).othr hne5 10 (.slice (some ⟨b5, off5, none⟩) L5.length c5))
    have hB8 := bset11 hB (Nat.le_succ _) (.int .u8 0) (.int .u16 0) (.bool true) (.bool false) (.int .u16 0) (.int .u8 64) (.int .u8 1) (.int .u32 (c0.toNat : Int)) (.int .u32 (s.toNat : Int)) (.slice none 0 0) (.slice (some ⟨b5, off5, none⟩) L5.length c5)
    simp only [setAll11] at hB8
    clear r5 KR hB h8
    go_wp2_with fail
    simp [bodyPost, results, Try.results7, go_sem, *]
    exact ⟨L5, some ⟨b5, off5, none⟩, c5, ⟨rfl, rfl, rfl⟩, HL5, by simpa using r6⟩

end Go.Proofs.Ytpibempfhgaomaa
