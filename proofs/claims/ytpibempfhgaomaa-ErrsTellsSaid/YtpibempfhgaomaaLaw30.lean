/- The walk of the statement on who is told that a packet is too great. -/
import Derived.Test.YtpibempfhgaomaaErr2
import Derived.Test.YtpibempfhgaomaaQuo5
import Derived.Test.YtpibempfhgaomaaIp7
import Derived.Test.YtpibempfhgaomaaErr0
namespace Go.Proofs.Ytpibempfhgaomaa
open Go.RowKit

theorem ipok_put (h tos : UInt8) (id : UInt16) (D M : Bool) (fo : UInt16) (ttl pr : UInt8) (s d : UInt32) (os xs zs P : List UInt8) (N : Nat) (h1 : os.length ≤ 40) (h2 : os.length % 4 = 0) (h3 : fo.toNat ≤ 8191) (h4 : 20 + os.length + xs.length ≤ 65535) (hh : h.toNat = 69 + os.length / 4)
    (hN : onesN (ih h tos (20 + os.length + xs.length) id (wdN D M fo) ttl pr 0 s d os) = N) (hP : P = ih h tos (20 + os.length + xs.length) id (wdN D M fo) ttl pr (65535 - N) s d os ++ (xs ++ zs)) :
    IpOk P (5 + os.length / 4) (wdN D M fo) (20 + os.length + xs.length) tos id D M fo ttl pr s d := by
  obtain ⟨w1, w2, w3, w4⟩ := wdN_le D M fo h3
  exact ipok_ih h tos _ id _ ttl pr _ s d os (xs ++ zs) P _ fo D M (by omega) (by omega) (by omega) (by omega) hP (by omega) (by omega) (by simp; omega) w1 w2 w3 w4 (ih_ones h tos _ id _ ttl pr s d os N hN)

set_option maxHeartbeats 8000000 in
set_option maxRecDepth 20000 in
theorem tells_a (D M : Bool) (cs : Array Value) (_hcz : cs.size = 40) (c0 : UInt32) (_h12 : cs.toList[12]? = some (.int .u32 (c0.toNat : Int))) (tos : UInt8) (id : UInt16)  (fo : UInt16) (ttl pr : UInt8) (s d : UInt32) (a8 a9 : Option Addr) (len8 cap8 len9 cap9 : Nat) (os xs : List UInt8) (mtu : UInt16) (w : World) (h : 0 < os.length)
    (HF : ∀ W, Hid (Calls Try.prog 4 #[.agg #[.int .u8 (tos.toNat : Int), .int .u16 (id.toNat : Int), .bool D, .bool M, .int .u16 (fo.toNat : Int), .int .u8 (ttl.toNat : Int), .int .u8 (pr.toNat : Int), .int .u32 (s.toNat : Int), .int .u32 (d.toNat : Int), .slice a8 len8 cap8, .slice a9 len9 cap9]] W fun e w' => e = .returned (.agg #[.int .u8 (tos.toNat : Int), .int .u16 (id.toNat : Int), .bool D, .bool M, .int .u16 (fo.toNat : Int), .int .u8 (ttl.toNat : Int), .int .u8 (pr.toNat : Int), .int .u32 (s.toNat : Int), .int .u32 (d.toNat : Int), .slice a8 os.length cap8, .slice a9 xs.length cap9]) ∧ Below W.heap.size W w')) :
    Calls Try.prog 3 #[.agg cs, .agg #[.int .u8 (tos.toNat : Int), .int .u16 (id.toNat : Int), .bool D, .bool M, .int .u16 (fo.toNat : Int), .int .u8 (ttl.toNat : Int), .int .u8 (pr.toNat : Int), .int .u32 (s.toNat : Int), .int .u32 (d.toNat : Int), .slice a8 len8 cap8, .slice a9 len9 cap9], .int .u16 (mtu.toNat : Int)] w fun e w' => e = .returned (.bool true) ∧ Below w.heap.size w w' := by
  go_enter Try.func3, Try.ntmps3
  go_wp2_with fail
  refine (HF _).out.mono ?_
  rintro e w_1 ⟨rfl, hbel⟩
  have hB := bnext (bnextA (bnextA (Below.refl w.heap.size w) (.cells cs 33)) (.cells #[.int .u8 (tos.toNat : Int), .int .u16 (id.toNat : Int), .bool D, .bool M, .int .u16 (fo.toNat : Int), .int .u8 (ttl.toNat : Int), .int .u8 (pr.toNat : Int), .int .u32 (s.toNat : Int), .int .u32 (d.toNat : Int), .slice a8 len8 cap8, .slice a9 len9 cap9] 36)) hbel
  have KC := ((Blk.new w cs 33).alloc (.cells #[.int .u8 (tos.toNat : Int), .int .u16 (id.toNat : Int), .bool D, .bool M, .int .u16 (fo.toNat : Int), .int .u8 (ttl.toNat : Int), .int .u8 (pr.toNat : Int), .int .u32 (s.toNat : Int), .int .u32 (d.toNat : Int), .slice a8 len8 cap8, .slice a9 len9 cap9] 36)).next hbel
  have hK : Blk w_1 (w.heap.size + 1) [.int .u8 (tos.toNat : Int), .int .u16 (id.toNat : Int), .bool D, .bool M, .int .u16 (fo.toNat : Int), .int .u8 (ttl.toNat : Int), .int .u8 (pr.toNat : Int), .int .u32 (s.toNat : Int), .int .u32 (d.toNat : Int), .slice a8 len8 cap8, .slice a9 len9 cap9] 36 := by
    have := (Blk.new (w.alloc (.cells cs 33)) #[.int .u8 (tos.toNat : Int), .int .u16 (id.toNat : Int), .bool D, .bool M, .int .u16 (fo.toNat : Int), .int .u8 (ttl.toNat : Int), .int .u8 (pr.toNat : Int), .int .u32 (s.toNat : Int), .int .u32 (d.toNat : Int), .slice a8 len8 cap8, .slice a9 len9 cap9] 36).next hbel
    simpa using this
  obtain ⟨p0, p1, p2, p3, p4, p5, p6, p7, p8, p9, p10, g0, g1, g2, g3, g4, g5, g6, g7, g8, g9, g10⟩ := hK.get11
  clear hbel HF
  go_wp2_with fail
  have hBV := bset11 hB (Nat.le_succ _) (.int .u8 (tos.toNat : Int)) (.int .u16 (id.toNat : Int)) (.bool D) (.bool M) (.int .u16 (fo.toNat : Int)) (.int .u8 (ttl.toNat : Int)) (.int .u8 (pr.toNat : Int)) (.int .u32 (s.toNat : Int)) (.int .u32 (d.toNat : Int)) (.slice a8 os.length cap8) (.slice a9 xs.length cap9)
  have hKV := hK.set11 (u0 := .int .u8 (tos.toNat : Int)) (u1 := .int .u16 (id.toNat : Int)) (u2 := .bool D) (u3 := .bool M) (u4 := .int .u16 (fo.toNat : Int)) (u5 := .int .u8 (ttl.toNat : Int)) (u6 := .int .u8 (pr.toNat : Int)) (u7 := .int .u32 (s.toNat : Int)) (u8 := .int .u32 (d.toNat : Int)) (u9 := .slice a8 os.length cap8) (u10 := .slice a9 xs.length cap9)
  have KCV := KC.oth11 (g' := w.heap.size + 1) (by omega) (u0 := .int .u8 (tos.toNat : Int)) (u1 := .int .u16 (id.toNat : Int)) (u2 := .bool D) (u3 := .bool M) (u4 := .int .u16 (fo.toNat : Int)) (u5 := .int .u8 (ttl.toNat : Int)) (u6 := .int .u8 (pr.toNat : Int)) (u7 := .int .u32 (s.toNat : Int)) (u8 := .int .u32 (d.toNat : Int)) (u9 := .slice a8 os.length cap8) (u10 := .slice a9 xs.length cap9)
  simp only [setAll11] at hBV hKV KCV
  clear p0 p1 p2 p3 p4 p5 p6 p7 p8 p9 p10 g0 g1 g2 g3 g4 g5 g6 g7 g8 g9 g10 hB hK KC
  generalize (((((((((((w_1.setCell ⟨w.heap.size + 1, 0, none⟩ (.int .u8 (tos.toNat : Int))).setCell ⟨w.heap.size + 1, 1, none⟩ (.int .u16 (id.toNat : Int))).setCell ⟨w.heap.size + 1, 2, none⟩ (.bool D)).setCell ⟨w.heap.size + 1, 3, none⟩ (.bool M)).setCell ⟨w.heap.size + 1, 4, none⟩ (.int .u16 (fo.toNat : Int))).setCell ⟨w.heap.size + 1, 5, none⟩ (.int .u8 (ttl.toNat : Int))).setCell ⟨w.heap.size + 1, 6, none⟩ (.int .u8 (pr.toNat : Int))).setCell ⟨w.heap.size + 1, 7, none⟩ (.int .u32 (s.toNat : Int))).setCell ⟨w.heap.size + 1, 8, none⟩ (.int .u32 (d.toNat : Int))).setCell ⟨w.heap.size + 1, 9, none⟩ (.slice a8 os.length cap8)).setCell ⟨w.heap.size + 1, 10, none⟩ (.slice a9 xs.length cap9)) = V at hBV hKV KCV ⊢
  have hB := hBV
  have hK := hKV
  have KC := KCV
  clear hBV hKV KCV
  obtain ⟨p0, p1, p2, p3, p4, p5, p6, p7, p8, p9, p10, -⟩ := hK.get11
  clear hK KC
  go_wp2_with fail
  clear p0 p1 p2 p3 p4 p5 p6 p7 p8 p9 p10
  refine (lives30_any _).mono ?_
  rintro e wl ⟨rfl, hbel⟩
  replace hB := bnext hB hbel
  go_wp2_with fail
  go_ret
  exact ⟨rfl, hB⟩

set_option maxHeartbeats 8000000 in
set_option maxRecDepth 20000 in
theorem tells_b (D M : Bool) (cs : Array Value) (_hcz : cs.size = 40) (c0 : UInt32) (_h12 : cs.toList[12]? = some (.int .u32 (c0.toNat : Int))) (tos : UInt8) (id : UInt16)  (fo : UInt16) (ttl pr : UInt8) (s d : UInt32) (a8 a9 : Option Addr) (len8 cap8 len9 cap9 : Nat) (os xs : List UInt8) (mtu : UInt16) (w : World) (h : ¬ 0 < os.length) (h4 : xs.length < 4)
    (HF : ∀ W, Hid (Calls Try.prog 4 #[.agg #[.int .u8 (tos.toNat : Int), .int .u16 (id.toNat : Int), .bool D, .bool M, .int .u16 (fo.toNat : Int), .int .u8 (ttl.toNat : Int), .int .u8 (pr.toNat : Int), .int .u32 (s.toNat : Int), .int .u32 (d.toNat : Int), .slice a8 len8 cap8, .slice a9 len9 cap9]] W fun e w' => e = .returned (.agg #[.int .u8 (tos.toNat : Int), .int .u16 (id.toNat : Int), .bool D, .bool M, .int .u16 (fo.toNat : Int), .int .u8 (ttl.toNat : Int), .int .u8 (pr.toNat : Int), .int .u32 (s.toNat : Int), .int .u32 (d.toNat : Int), .slice a8 os.length cap8, .slice a9 xs.length cap9]) ∧ Below W.heap.size W w')) :
    Calls Try.prog 3 #[.agg cs, .agg #[.int .u8 (tos.toNat : Int), .int .u16 (id.toNat : Int), .bool D, .bool M, .int .u16 (fo.toNat : Int), .int .u8 (ttl.toNat : Int), .int .u8 (pr.toNat : Int), .int .u32 (s.toNat : Int), .int .u32 (d.toNat : Int), .slice a8 len8 cap8, .slice a9 len9 cap9], .int .u16 (mtu.toNat : Int)] w fun e w' => e = .returned (.bool true) ∧ Below w.heap.size w w' := by
  have h4d : decide ((xs.length : Int) < 4) = true := by simp; omega
  go_enter Try.func3, Try.ntmps3
  go_wp2_with fail
  refine (HF _).out.mono ?_
  rintro e w_1 ⟨rfl, hbel⟩
  have hB := bnext (bnextA (bnextA (Below.refl w.heap.size w) (.cells cs 33)) (.cells #[.int .u8 (tos.toNat : Int), .int .u16 (id.toNat : Int), .bool D, .bool M, .int .u16 (fo.toNat : Int), .int .u8 (ttl.toNat : Int), .int .u8 (pr.toNat : Int), .int .u32 (s.toNat : Int), .int .u32 (d.toNat : Int), .slice a8 len8 cap8, .slice a9 len9 cap9] 36)) hbel
  have KC := ((Blk.new w cs 33).alloc (.cells #[.int .u8 (tos.toNat : Int), .int .u16 (id.toNat : Int), .bool D, .bool M, .int .u16 (fo.toNat : Int), .int .u8 (ttl.toNat : Int), .int .u8 (pr.toNat : Int), .int .u32 (s.toNat : Int), .int .u32 (d.toNat : Int), .slice a8 len8 cap8, .slice a9 len9 cap9] 36)).next hbel
  have hK : Blk w_1 (w.heap.size + 1) [.int .u8 (tos.toNat : Int), .int .u16 (id.toNat : Int), .bool D, .bool M, .int .u16 (fo.toNat : Int), .int .u8 (ttl.toNat : Int), .int .u8 (pr.toNat : Int), .int .u32 (s.toNat : Int), .int .u32 (d.toNat : Int), .slice a8 len8 cap8, .slice a9 len9 cap9] 36 := by
    have := (Blk.new (w.alloc (.cells cs 33)) #[.int .u8 (tos.toNat : Int), .int .u16 (id.toNat : Int), .bool D, .bool M, .int .u16 (fo.toNat : Int), .int .u8 (ttl.toNat : Int), .int .u8 (pr.toNat : Int), .int .u32 (s.toNat : Int), .int .u32 (d.toNat : Int), .slice a8 len8 cap8, .slice a9 len9 cap9] 36).next hbel
    simpa using this
  obtain ⟨p0, p1, p2, p3, p4, p5, p6, p7, p8, p9, p10, g0, g1, g2, g3, g4, g5, g6, g7, g8, g9, g10⟩ := hK.get11
  clear hbel HF
  go_wp2_with fail
  have hBV := bset11 hB (Nat.le_succ _) (.int .u8 (tos.toNat : Int)) (.int .u16 (id.toNat : Int)) (.bool D) (.bool M) (.int .u16 (fo.toNat : Int)) (.int .u8 (ttl.toNat : Int)) (.int .u8 (pr.toNat : Int)) (.int .u32 (s.toNat : Int)) (.int .u32 (d.toNat : Int)) (.slice a8 os.length cap8) (.slice a9 xs.length cap9)
  have hKV := hK.set11 (u0 := .int .u8 (tos.toNat : Int)) (u1 := .int .u16 (id.toNat : Int)) (u2 := .bool D) (u3 := .bool M) (u4 := .int .u16 (fo.toNat : Int)) (u5 := .int .u8 (ttl.toNat : Int)) (u6 := .int .u8 (pr.toNat : Int)) (u7 := .int .u32 (s.toNat : Int)) (u8 := .int .u32 (d.toNat : Int)) (u9 := .slice a8 os.length cap8) (u10 := .slice a9 xs.length cap9)
  have KCV := KC.oth11 (g' := w.heap.size + 1) (by omega) (u0 := .int .u8 (tos.toNat : Int)) (u1 := .int .u16 (id.toNat : Int)) (u2 := .bool D) (u3 := .bool M) (u4 := .int .u16 (fo.toNat : Int)) (u5 := .int .u8 (ttl.toNat : Int)) (u6 := .int .u8 (pr.toNat : Int)) (u7 := .int .u32 (s.toNat : Int)) (u8 := .int .u32 (d.toNat : Int)) (u9 := .slice a8 os.length cap8) (u10 := .slice a9 xs.length cap9)
  simp only [setAll11] at hBV hKV KCV
  clear p0 p1 p2 p3 p4 p5 p6 p7 p8 p9 p10 g0 g1 g2 g3 g4 g5 g6 g7 g8 g9 g10 hB hK KC
  generalize (((((((((((w_1.setCell ⟨w.heap.size + 1, 0, none⟩ (.int .u8 (tos.toNat : Int))).setCell ⟨w.heap.size + 1, 1, none⟩ (.int .u16 (id.toNat : Int))).setCell ⟨w.heap.size + 1, 2, none⟩ (.bool D)).setCell ⟨w.heap.size + 1, 3, none⟩ (.bool M)).setCell ⟨w.heap.size + 1, 4, none⟩ (.int .u16 (fo.toNat : Int))).setCell ⟨w.heap.size + 1, 5, none⟩ (.int .u8 (ttl.toNat : Int))).setCell ⟨w.heap.size + 1, 6, none⟩ (.int .u8 (pr.toNat : Int))).setCell ⟨w.heap.size + 1, 7, none⟩ (.int .u32 (s.toNat : Int))).setCell ⟨w.heap.size + 1, 8, none⟩ (.int .u32 (d.toNat : Int))).setCell ⟨w.heap.size + 1, 9, none⟩ (.slice a8 os.length cap8)).setCell ⟨w.heap.size + 1, 10, none⟩ (.slice a9 xs.length cap9)) = V at hBV hKV KCV ⊢
  have hB := hBV
  have hK := hKV
  have KC := KCV
  clear hBV hKV KCV
  obtain ⟨p0, p1, p2, p3, p4, p5, p6, p7, p8, p9, p10, -⟩ := hK.get11
  clear hK KC
  go_wp2_with fail
  clear p0 p1 p2 p3 p4 p5 p6 p7 p8 p9 p10
  refine (lives30_any _).mono ?_
  rintro e wl ⟨rfl, hbel⟩
  replace hB := bnext hB hbel
  go_wp2_with fail
  go_ret
  exact ⟨rfl, hB⟩

set_option maxHeartbeats 8000000 in
set_option maxRecDepth 20000 in
theorem tells_c (D : Bool) (cs : Array Value) (_hcz : cs.size = 40) (c0 : UInt32) (_h12 : cs.toList[12]? = some (.int .u32 (c0.toNat : Int))) (tos : UInt8) (id : UInt16)  (fo : UInt16) (ttl pr : UInt8) (s d : UInt32) (a8 a9 : Option Addr) (len8 cap8 len9 cap9 : Nat) (os xs : List UInt8) (mtu : UInt16) (w : World) (h : ¬ 0 < os.length) (h4 : 4 ≤ xs.length)
    (HF : ∀ W, Hid (Calls Try.prog 4 #[.agg #[.int .u8 (tos.toNat : Int), .int .u16 (id.toNat : Int), .bool D, .bool true, .int .u16 (fo.toNat : Int), .int .u8 (ttl.toNat : Int), .int .u8 (pr.toNat : Int), .int .u32 (s.toNat : Int), .int .u32 (d.toNat : Int), .slice a8 len8 cap8, .slice a9 len9 cap9]] W fun e w' => e = .returned (.agg #[.int .u8 (tos.toNat : Int), .int .u16 (id.toNat : Int), .bool D, .bool true, .int .u16 (fo.toNat : Int), .int .u8 (ttl.toNat : Int), .int .u8 (pr.toNat : Int), .int .u32 (s.toNat : Int), .int .u32 (d.toNat : Int), .slice a8 os.length cap8, .slice a9 xs.length cap9]) ∧ Below W.heap.size W w')) :
    Calls Try.prog 3 #[.agg cs, .agg #[.int .u8 (tos.toNat : Int), .int .u16 (id.toNat : Int), .bool D, .bool true, .int .u16 (fo.toNat : Int), .int .u8 (ttl.toNat : Int), .int .u8 (pr.toNat : Int), .int .u32 (s.toNat : Int), .int .u32 (d.toNat : Int), .slice a8 len8 cap8, .slice a9 len9 cap9], .int .u16 (mtu.toNat : Int)] w fun e w' => e = .returned (.bool true) ∧ Below w.heap.size w w' := by
  have h4d : decide ((xs.length : Int) < 4) = false := by simp; omega
  have h4n : ¬ xs.length < 4 := by omega
  go_enter Try.func3, Try.ntmps3
  go_wp2_with fail
  refine (HF _).out.mono ?_
  rintro e w_1 ⟨rfl, hbel⟩
  have hB := bnext (bnextA (bnextA (Below.refl w.heap.size w) (.cells cs 33)) (.cells #[.int .u8 (tos.toNat : Int), .int .u16 (id.toNat : Int), .bool D, .bool true, .int .u16 (fo.toNat : Int), .int .u8 (ttl.toNat : Int), .int .u8 (pr.toNat : Int), .int .u32 (s.toNat : Int), .int .u32 (d.toNat : Int), .slice a8 len8 cap8, .slice a9 len9 cap9] 36)) hbel
  have KC := ((Blk.new w cs 33).alloc (.cells #[.int .u8 (tos.toNat : Int), .int .u16 (id.toNat : Int), .bool D, .bool true, .int .u16 (fo.toNat : Int), .int .u8 (ttl.toNat : Int), .int .u8 (pr.toNat : Int), .int .u32 (s.toNat : Int), .int .u32 (d.toNat : Int), .slice a8 len8 cap8, .slice a9 len9 cap9] 36)).next hbel
  have hK : Blk w_1 (w.heap.size + 1) [.int .u8 (tos.toNat : Int), .int .u16 (id.toNat : Int), .bool D, .bool true, .int .u16 (fo.toNat : Int), .int .u8 (ttl.toNat : Int), .int .u8 (pr.toNat : Int), .int .u32 (s.toNat : Int), .int .u32 (d.toNat : Int), .slice a8 len8 cap8, .slice a9 len9 cap9] 36 := by
    have := (Blk.new (w.alloc (.cells cs 33)) #[.int .u8 (tos.toNat : Int), .int .u16 (id.toNat : Int), .bool D, .bool true, .int .u16 (fo.toNat : Int), .int .u8 (ttl.toNat : Int), .int .u8 (pr.toNat : Int), .int .u32 (s.toNat : Int), .int .u32 (d.toNat : Int), .slice a8 len8 cap8, .slice a9 len9 cap9] 36).next hbel
    simpa using this
  obtain ⟨p0, p1, p2, p3, p4, p5, p6, p7, p8, p9, p10, g0, g1, g2, g3, g4, g5, g6, g7, g8, g9, g10⟩ := hK.get11
  clear hbel HF
  go_wp2_with fail
  have hBV := bset11 hB (Nat.le_succ _) (.int .u8 (tos.toNat : Int)) (.int .u16 (id.toNat : Int)) (.bool D) (.bool true) (.int .u16 (fo.toNat : Int)) (.int .u8 (ttl.toNat : Int)) (.int .u8 (pr.toNat : Int)) (.int .u32 (s.toNat : Int)) (.int .u32 (d.toNat : Int)) (.slice a8 os.length cap8) (.slice a9 xs.length cap9)
  have hKV := hK.set11 (u0 := .int .u8 (tos.toNat : Int)) (u1 := .int .u16 (id.toNat : Int)) (u2 := .bool D) (u3 := .bool true) (u4 := .int .u16 (fo.toNat : Int)) (u5 := .int .u8 (ttl.toNat : Int)) (u6 := .int .u8 (pr.toNat : Int)) (u7 := .int .u32 (s.toNat : Int)) (u8 := .int .u32 (d.toNat : Int)) (u9 := .slice a8 os.length cap8) (u10 := .slice a9 xs.length cap9)
  have KCV := KC.oth11 (g' := w.heap.size + 1) (by omega) (u0 := .int .u8 (tos.toNat : Int)) (u1 := .int .u16 (id.toNat : Int)) (u2 := .bool D) (u3 := .bool true) (u4 := .int .u16 (fo.toNat : Int)) (u5 := .int .u8 (ttl.toNat : Int)) (u6 := .int .u8 (pr.toNat : Int)) (u7 := .int .u32 (s.toNat : Int)) (u8 := .int .u32 (d.toNat : Int)) (u9 := .slice a8 os.length cap8) (u10 := .slice a9 xs.length cap9)
  simp only [setAll11] at hBV hKV KCV
  clear p0 p1 p2 p3 p4 p5 p6 p7 p8 p9 p10 g0 g1 g2 g3 g4 g5 g6 g7 g8 g9 g10 hB hK KC
  generalize (((((((((((w_1.setCell ⟨w.heap.size + 1, 0, none⟩ (.int .u8 (tos.toNat : Int))).setCell ⟨w.heap.size + 1, 1, none⟩ (.int .u16 (id.toNat : Int))).setCell ⟨w.heap.size + 1, 2, none⟩ (.bool D)).setCell ⟨w.heap.size + 1, 3, none⟩ (.bool true)).setCell ⟨w.heap.size + 1, 4, none⟩ (.int .u16 (fo.toNat : Int))).setCell ⟨w.heap.size + 1, 5, none⟩ (.int .u8 (ttl.toNat : Int))).setCell ⟨w.heap.size + 1, 6, none⟩ (.int .u8 (pr.toNat : Int))).setCell ⟨w.heap.size + 1, 7, none⟩ (.int .u32 (s.toNat : Int))).setCell ⟨w.heap.size + 1, 8, none⟩ (.int .u32 (d.toNat : Int))).setCell ⟨w.heap.size + 1, 9, none⟩ (.slice a8 os.length cap8)).setCell ⟨w.heap.size + 1, 10, none⟩ (.slice a9 xs.length cap9)) = V at hBV hKV KCV ⊢
  have hB := hBV
  have hK := hKV
  have KC := KCV
  clear hBV hKV KCV
  obtain ⟨p0, p1, p2, p3, p4, p5, p6, p7, p8, p9, p10, -⟩ := hK.get11
  clear hK KC
  go_wp2_with fail
  clear p0 p1 p2 p3 p4 p5 p6 p7 p8 p9 p10
  refine (lives30_any _).mono ?_
  rintro e wl ⟨rfl, hbel⟩
  replace hB := bnext hB hbel
  go_wp2_with fail
  go_ret
  exact ⟨rfl, hB⟩

set_option maxHeartbeats 8000000 in
set_option maxRecDepth 20000 in
theorem tells_d (D : Bool) (cs : Array Value) (_hcz : cs.size = 40) (c0 : UInt32) (_h12 : cs.toList[12]? = some (.int .u32 (c0.toNat : Int))) (tos : UInt8) (id : UInt16)  (fo : UInt16) (ttl pr : UInt8) (s d : UInt32) (a8 a9 : Option Addr) (len8 cap8 len9 cap9 : Nat) (os xs : List UInt8) (mtu : UInt16) (w : World) (h : ¬ 0 < os.length) (h4 : 4 ≤ xs.length) (hf : 0 < fo.toNat)
    (HF : ∀ W, Hid (Calls Try.prog 4 #[.agg #[.int .u8 (tos.toNat : Int), .int .u16 (id.toNat : Int), .bool D, .bool false, .int .u16 (fo.toNat : Int), .int .u8 (ttl.toNat : Int), .int .u8 (pr.toNat : Int), .int .u32 (s.toNat : Int), .int .u32 (d.toNat : Int), .slice a8 len8 cap8, .slice a9 len9 cap9]] W fun e w' => e = .returned (.agg #[.int .u8 (tos.toNat : Int), .int .u16 (id.toNat : Int), .bool D, .bool false, .int .u16 (fo.toNat : Int), .int .u8 (ttl.toNat : Int), .int .u8 (pr.toNat : Int), .int .u32 (s.toNat : Int), .int .u32 (d.toNat : Int), .slice a8 os.length cap8, .slice a9 xs.length cap9]) ∧ Below W.heap.size W w')) :
    Calls Try.prog 3 #[.agg cs, .agg #[.int .u8 (tos.toNat : Int), .int .u16 (id.toNat : Int), .bool D, .bool false, .int .u16 (fo.toNat : Int), .int .u8 (ttl.toNat : Int), .int .u8 (pr.toNat : Int), .int .u32 (s.toNat : Int), .int .u32 (d.toNat : Int), .slice a8 len8 cap8, .slice a9 len9 cap9], .int .u16 (mtu.toNat : Int)] w fun e w' => e = .returned (.bool true) ∧ Below w.heap.size w w' := by
  have h4d : decide ((xs.length : Int) < 4) = false := by simp; omega
  have h4n : ¬ xs.length < 4 := by omega
  go_enter Try.func3, Try.ntmps3
  go_wp2_with fail
  refine (HF _).out.mono ?_
  rintro e w_1 ⟨rfl, hbel⟩
  have hB := bnext (bnextA (bnextA (Below.refl w.heap.size w) (.cells cs 33)) (.cells #[.int .u8 (tos.toNat : Int), .int .u16 (id.toNat : Int), .bool D, .bool false, .int .u16 (fo.toNat : Int), .int .u8 (ttl.toNat : Int), .int .u8 (pr.toNat : Int), .int .u32 (s.toNat : Int), .int .u32 (d.toNat : Int), .slice a8 len8 cap8, .slice a9 len9 cap9] 36)) hbel
  have KC := ((Blk.new w cs 33).alloc (.cells #[.int .u8 (tos.toNat : Int), .int .u16 (id.toNat : Int), .bool D, .bool false, .int .u16 (fo.toNat : Int), .int .u8 (ttl.toNat : Int), .int .u8 (pr.toNat : Int), .int .u32 (s.toNat : Int), .int .u32 (d.toNat : Int), .slice a8 len8 cap8, .slice a9 len9 cap9] 36)).next hbel
  have hK : Blk w_1 (w.heap.size + 1) [.int .u8 (tos.toNat : Int), .int .u16 (id.toNat : Int), .bool D, .bool false, .int .u16 (fo.toNat : Int), .int .u8 (ttl.toNat : Int), .int .u8 (pr.toNat : Int), .int .u32 (s.toNat : Int), .int .u32 (d.toNat : Int), .slice a8 len8 cap8, .slice a9 len9 cap9] 36 := by
    have := (Blk.new (w.alloc (.cells cs 33)) #[.int .u8 (tos.toNat : Int), .int .u16 (id.toNat : Int), .bool D, .bool false, .int .u16 (fo.toNat : Int), .int .u8 (ttl.toNat : Int), .int .u8 (pr.toNat : Int), .int .u32 (s.toNat : Int), .int .u32 (d.toNat : Int), .slice a8 len8 cap8, .slice a9 len9 cap9] 36).next hbel
    simpa using this
  obtain ⟨p0, p1, p2, p3, p4, p5, p6, p7, p8, p9, p10, g0, g1, g2, g3, g4, g5, g6, g7, g8, g9, g10⟩ := hK.get11
  clear hbel HF
  go_wp2_with fail
  have hBV := bset11 hB (Nat.le_succ _) (.int .u8 (tos.toNat : Int)) (.int .u16 (id.toNat : Int)) (.bool D) (.bool false) (.int .u16 (fo.toNat : Int)) (.int .u8 (ttl.toNat : Int)) (.int .u8 (pr.toNat : Int)) (.int .u32 (s.toNat : Int)) (.int .u32 (d.toNat : Int)) (.slice a8 os.length cap8) (.slice a9 xs.length cap9)
  have hKV := hK.set11 (u0 := .int .u8 (tos.toNat : Int)) (u1 := .int .u16 (id.toNat : Int)) (u2 := .bool D) (u3 := .bool false) (u4 := .int .u16 (fo.toNat : Int)) (u5 := .int .u8 (ttl.toNat : Int)) (u6 := .int .u8 (pr.toNat : Int)) (u7 := .int .u32 (s.toNat : Int)) (u8 := .int .u32 (d.toNat : Int)) (u9 := .slice a8 os.length cap8) (u10 := .slice a9 xs.length cap9)
  have KCV := KC.oth11 (g' := w.heap.size + 1) (by omega) (u0 := .int .u8 (tos.toNat : Int)) (u1 := .int .u16 (id.toNat : Int)) (u2 := .bool D) (u3 := .bool false) (u4 := .int .u16 (fo.toNat : Int)) (u5 := .int .u8 (ttl.toNat : Int)) (u6 := .int .u8 (pr.toNat : Int)) (u7 := .int .u32 (s.toNat : Int)) (u8 := .int .u32 (d.toNat : Int)) (u9 := .slice a8 os.length cap8) (u10 := .slice a9 xs.length cap9)
  simp only [setAll11] at hBV hKV KCV
  clear p0 p1 p2 p3 p4 p5 p6 p7 p8 p9 p10 g0 g1 g2 g3 g4 g5 g6 g7 g8 g9 g10 hB hK KC
  generalize (((((((((((w_1.setCell ⟨w.heap.size + 1, 0, none⟩ (.int .u8 (tos.toNat : Int))).setCell ⟨w.heap.size + 1, 1, none⟩ (.int .u16 (id.toNat : Int))).setCell ⟨w.heap.size + 1, 2, none⟩ (.bool D)).setCell ⟨w.heap.size + 1, 3, none⟩ (.bool false)).setCell ⟨w.heap.size + 1, 4, none⟩ (.int .u16 (fo.toNat : Int))).setCell ⟨w.heap.size + 1, 5, none⟩ (.int .u8 (ttl.toNat : Int))).setCell ⟨w.heap.size + 1, 6, none⟩ (.int .u8 (pr.toNat : Int))).setCell ⟨w.heap.size + 1, 7, none⟩ (.int .u32 (s.toNat : Int))).setCell ⟨w.heap.size + 1, 8, none⟩ (.int .u32 (d.toNat : Int))).setCell ⟨w.heap.size + 1, 9, none⟩ (.slice a8 os.length cap8)).setCell ⟨w.heap.size + 1, 10, none⟩ (.slice a9 xs.length cap9)) = V at hBV hKV KCV ⊢
  have hB := hBV
  have hK := hKV
  have KC := KCV
  clear hBV hKV KCV
  obtain ⟨p0, p1, p2, p3, p4, p5, p6, p7, p8, p9, p10, -⟩ := hK.get11
  clear hK KC
  go_wp2_with fail
  clear p0 p1 p2 p3 p4 p5 p6 p7 p8 p9 p10
  refine (lives30_any _).mono ?_
  rintro e wl ⟨rfl, hbel⟩
  replace hB := bnext hB hbel
  go_wp2_with fail
  go_ret
  exact ⟨rfl, hB⟩

set_option maxHeartbeats 8000000 in
set_option maxRecDepth 20000 in
theorem tells_e (D : Bool) (cs : Array Value) (_hcz : cs.size = 40) (c0 : UInt32) (_h12 : cs.toList[12]? = some (.int .u32 (c0.toNat : Int))) (tos : UInt8) (id : UInt16)  (fo : UInt16) (ttl pr : UInt8) (s d : UInt32) (a8 a9 : Option Addr) (len8 cap8 len9 cap9 : Nat) (os xs : List UInt8) (mtu : UInt16) (w : World) (h : ¬ 0 < os.length) (h4 : 4 ≤ xs.length) (hf : ¬ 0 < fo.toNat) (h6 : ((pr.toNat : Int) != 6) = true) (h17 : ((pr.toNat : Int) != 17) = true)
    (HF : ∀ W, Hid (Calls Try.prog 4 #[.agg #[.int .u8 (tos.toNat : Int), .int .u16 (id.toNat : Int), .bool D, .bool false, .int .u16 (fo.toNat : Int), .int .u8 (ttl.toNat : Int), .int .u8 (pr.toNat : Int), .int .u32 (s.toNat : Int), .int .u32 (d.toNat : Int), .slice a8 len8 cap8, .slice a9 len9 cap9]] W fun e w' => e = .returned (.agg #[.int .u8 (tos.toNat : Int), .int .u16 (id.toNat : Int), .bool D, .bool false, .int .u16 (fo.toNat : Int), .int .u8 (ttl.toNat : Int), .int .u8 (pr.toNat : Int), .int .u32 (s.toNat : Int), .int .u32 (d.toNat : Int), .slice a8 os.length cap8, .slice a9 xs.length cap9]) ∧ Below W.heap.size W w')) :
    Calls Try.prog 3 #[.agg cs, .agg #[.int .u8 (tos.toNat : Int), .int .u16 (id.toNat : Int), .bool D, .bool false, .int .u16 (fo.toNat : Int), .int .u8 (ttl.toNat : Int), .int .u8 (pr.toNat : Int), .int .u32 (s.toNat : Int), .int .u32 (d.toNat : Int), .slice a8 len8 cap8, .slice a9 len9 cap9], .int .u16 (mtu.toNat : Int)] w fun e w' => e = .returned (.bool true) ∧ Below w.heap.size w w' := by
  have h4d : decide ((xs.length : Int) < 4) = false := by simp; omega
  have h4n : ¬ xs.length < 4 := by omega
  go_enter Try.func3, Try.ntmps3
  go_wp2_with fail
  refine (HF _).out.mono ?_
  rintro e w_1 ⟨rfl, hbel⟩
  have hB := bnext (bnextA (bnextA (Below.refl w.heap.size w) (.cells cs 33)) (.cells #[.int .u8 (tos.toNat : Int), .int .u16 (id.toNat : Int), .bool D, .bool false, .int .u16 (fo.toNat : Int), .int .u8 (ttl.toNat : Int), .int .u8 (pr.toNat : Int), .int .u32 (s.toNat : Int), .int .u32 (d.toNat : Int), .slice a8 len8 cap8, .slice a9 len9 cap9] 36)) hbel
  have KC := ((Blk.new w cs 33).alloc (.cells #[.int .u8 (tos.toNat : Int), .int .u16 (id.toNat : Int), .bool D, .bool false, .int .u16 (fo.toNat : Int), .int .u8 (ttl.toNat : Int), .int .u8 (pr.toNat : Int), .int .u32 (s.toNat : Int), .int .u32 (d.toNat : Int), .slice a8 len8 cap8, .slice a9 len9 cap9] 36)).next hbel
  have hK : Blk w_1 (w.heap.size + 1) [.int .u8 (tos.toNat : Int), .int .u16 (id.toNat : Int), .bool D, .bool false, .int .u16 (fo.toNat : Int), .int .u8 (ttl.toNat : Int), .int .u8 (pr.toNat : Int), .int .u32 (s.toNat : Int), .int .u32 (d.toNat : Int), .slice a8 len8 cap8, .slice a9 len9 cap9] 36 := by
    have := (Blk.new (w.alloc (.cells cs 33)) #[.int .u8 (tos.toNat : Int), .int .u16 (id.toNat : Int), .bool D, .bool false, .int .u16 (fo.toNat : Int), .int .u8 (ttl.toNat : Int), .int .u8 (pr.toNat : Int), .int .u32 (s.toNat : Int), .int .u32 (d.toNat : Int), .slice a8 len8 cap8, .slice a9 len9 cap9] 36).next hbel
    simpa using this
  obtain ⟨p0, p1, p2, p3, p4, p5, p6, p7, p8, p9, p10, g0, g1, g2, g3, g4, g5, g6, g7, g8, g9, g10⟩ := hK.get11
  clear hbel HF
  go_wp2_with fail
  have hBV := bset11 hB (Nat.le_succ _) (.int .u8 (tos.toNat : Int)) (.int .u16 (id.toNat : Int)) (.bool D) (.bool false) (.int .u16 (fo.toNat : Int)) (.int .u8 (ttl.toNat : Int)) (.int .u8 (pr.toNat : Int)) (.int .u32 (s.toNat : Int)) (.int .u32 (d.toNat : Int)) (.slice a8 os.length cap8) (.slice a9 xs.length cap9)
  have hKV := hK.set11 (u0 := .int .u8 (tos.toNat : Int)) (u1 := .int .u16 (id.toNat : Int)) (u2 := .bool D) (u3 := .bool false) (u4 := .int .u16 (fo.toNat : Int)) (u5 := .int .u8 (ttl.toNat : Int)) (u6 := .int .u8 (pr.toNat : Int)) (u7 := .int .u32 (s.toNat : Int)) (u8 := .int .u32 (d.toNat : Int)) (u9 := .slice a8 os.length cap8) (u10 := .slice a9 xs.length cap9)
  have KCV := KC.oth11 (g' := w.heap.size + 1) (by omega) (u0 := .int .u8 (tos.toNat : Int)) (u1 := .int .u16 (id.toNat : Int)) (u2 := .bool D) (u3 := .bool false) (u4 := .int .u16 (fo.toNat : Int)) (u5 := .int .u8 (ttl.toNat : Int)) (u6 := .int .u8 (pr.toNat : Int)) (u7 := .int .u32 (s.toNat : Int)) (u8 := .int .u32 (d.toNat : Int)) (u9 := .slice a8 os.length cap8) (u10 := .slice a9 xs.length cap9)
  simp only [setAll11] at hBV hKV KCV
  clear p0 p1 p2 p3 p4 p5 p6 p7 p8 p9 p10 g0 g1 g2 g3 g4 g5 g6 g7 g8 g9 g10 hB hK KC
  generalize (((((((((((w_1.setCell ⟨w.heap.size + 1, 0, none⟩ (.int .u8 (tos.toNat : Int))).setCell ⟨w.heap.size + 1, 1, none⟩ (.int .u16 (id.toNat : Int))).setCell ⟨w.heap.size + 1, 2, none⟩ (.bool D)).setCell ⟨w.heap.size + 1, 3, none⟩ (.bool false)).setCell ⟨w.heap.size + 1, 4, none⟩ (.int .u16 (fo.toNat : Int))).setCell ⟨w.heap.size + 1, 5, none⟩ (.int .u8 (ttl.toNat : Int))).setCell ⟨w.heap.size + 1, 6, none⟩ (.int .u8 (pr.toNat : Int))).setCell ⟨w.heap.size + 1, 7, none⟩ (.int .u32 (s.toNat : Int))).setCell ⟨w.heap.size + 1, 8, none⟩ (.int .u32 (d.toNat : Int))).setCell ⟨w.heap.size + 1, 9, none⟩ (.slice a8 os.length cap8)).setCell ⟨w.heap.size + 1, 10, none⟩ (.slice a9 xs.length cap9)) = V at hBV hKV KCV ⊢
  have hB := hBV
  have hK := hKV
  have KC := KCV
  clear hBV hKV KCV
  obtain ⟨p0, p1, p2, p3, p4, p5, p6, p7, p8, p9, p10, -⟩ := hK.get11
  clear hK KC
  go_wp2_with fail
  clear p0 p1 p2 p3 p4 p5 p6 p7 p8 p9 p10
  refine (lives30_any _).mono ?_
  rintro e wl ⟨rfl, hbel⟩
  replace hB := bnext hB hbel
  go_wp2_with fail
  go_ret
  exact ⟨rfl, hB⟩

set_option maxHeartbeats 16000000 in
set_option maxRecDepth 20000 in
theorem tells_no6 (cs : Array Value) (hcz : cs.size = 40) (c0 : UInt32) (_h12 : cs.toList[12]? = some (.int .u32 (c0.toNat : Int))) (tos : UInt8) (id : UInt16)  (fo : UInt16) (ttl pr : UInt8) (s d : UInt32) (a8 a9 : Option Addr) (len8 cap8 len9 cap9 : Nat) (os xs : List UInt8) (mtu : UInt16) (w : World) (h : ¬ 0 < os.length) (h4 : 4 ≤ xs.length) (hxl : xs.length ≤ 300) (hf : ¬ 0 < fo.toNat) (h6 : ((pr.toNat : Int) != 6) = false) (ho0 : Rd bv w w.heap.size a8 cap8 os) (hx0 : Rd bv w w.heap.size a9 cap9 xs)
    (HF : ∀ W, Hid (Calls Try.prog 4 #[.agg #[.int .u8 (tos.toNat : Int), .int .u16 (id.toNat : Int), .bool false, .bool false, .int .u16 (fo.toNat : Int), .int .u8 (ttl.toNat : Int), .int .u8 (pr.toNat : Int), .int .u32 (s.toNat : Int), .int .u32 (d.toNat : Int), .slice a8 len8 cap8, .slice a9 len9 cap9]] W fun e w' => e = .returned (.agg #[.int .u8 (tos.toNat : Int), .int .u16 (id.toNat : Int), .bool false, .bool false, .int .u16 (fo.toNat : Int), .int .u8 (ttl.toNat : Int), .int .u8 (pr.toNat : Int), .int .u32 (s.toNat : Int), .int .u32 (d.toNat : Int), .slice a8 os.length cap8, .slice a9 xs.length cap9]) ∧ Below W.heap.size W w')) :
    Calls Try.prog 3 #[.agg cs, .agg #[.int .u8 (tos.toNat : Int), .int .u16 (id.toNat : Int), .bool false, .bool false, .int .u16 (fo.toNat : Int), .int .u8 (ttl.toNat : Int), .int .u8 (pr.toNat : Int), .int .u32 (s.toNat : Int), .int .u32 (d.toNat : Int), .slice a8 len8 cap8, .slice a9 len9 cap9], .int .u16 (mtu.toNat : Int)] w fun e w' => e = .returned (.bool true) ∧ Below w.heap.size w w' := by
  have h4d : decide ((xs.length : Int) < 4) = false := by simp; omega
  have h4n : ¬ xs.length < 4 := by omega
  have hos := List.eq_nil_of_length_eq_zero (Nat.eq_zero_of_not_pos h)
  have hf0 : fo.toNat = 0 := by omega
  have hpr : pr.toNat = 6 ∨ pr.toNat = 17 := by simp at h6; omega
  obtain ⟨h8, hh⟩ : ∃ h : UInt8, h.toNat = 69 := ⟨69, rfl⟩
  obtain ⟨N, hN⟩ : ∃ N, onesN (ih h8 tos (20 + os.length + xs.length) id (wdN false false fo) ttl pr 0 s d os) = N := ⟨_, rfl⟩
  have hol : os.length = 0 := by omega
  have HP1 : ∀ W (g1 : Rd bv W W.heap.size a8 cap8 os) (g2 : Rd bv W W.heap.size a9 cap9 xs), Hid (Calls Try.prog 6 #[.agg #[.int .u8 (tos.toNat : Int), .int .u16 (id.toNat : Int), .bool false, .bool false, .int .u16 (fo.toNat : Int), .int .u8 (ttl.toNat : Int), .int .u8 (pr.toNat : Int), .int .u32 (s.toNat : Int), .int .u32 (d.toNat : Int), .slice a8 os.length cap8, .slice a9 xs.length cap9]] W fun e w' => ∃ L A c, e = .returned (.tuple #[.slice A L.length c, .int .i64 0]) ∧ Hid (L = ih h8 tos (20 + os.length + xs.length) id (wdN false false fo) ttl pr (65535 - N) s d os ++ xs) ∧ Rd bv w' w'.heap.size A c L ∧ Below W.heap.size W w') := fun W g1 g2 => Lib.hid (rpput_ok tos id false false fo ttl pr s d a8 a9 cap8 cap9 os xs W g1 g2 (by omega) (by omega) (by omega) (by omega) h8 (by omega) N hN)
  have HLN : ∀ L : List UInt8, L = ih h8 tos (20 + os.length + xs.length) id (wdN false false fo) ttl pr (65535 - N) s d os ++ xs → L.length = 20 + xs.length := fun L h => by rw [h, List.length_append, ih_len]; omega
  have HOK := fun (L : List UInt8) (hL : L = ih h8 tos (20 + os.length + xs.length) id (wdN false false fo) ttl pr (65535 - N) s d os ++ xs) => ipok_put h8 tos id false false fo ttl pr s d os xs [] L N (by omega) (by omega) (by omega) (by omega) (by omega) hN (by rw [hL, List.append_nil])
  have hmt := mtu.toNat_lt
  have HTB : ∀ L A c W, Hid (L = ih h8 tos (20 + os.length + xs.length) id (wdN false false fo) ttl pr (65535 - N) s d os ++ xs) → Rd bv W W.heap.size A c L → Hid (Calls Try.prog 7 #[.agg cs, .slice A L.length c, .int .i64 (mtu.toNat : Int)] W fun e w' => e = .returned (.tuple #[.agg #[.int .u8 0, .int .u16 0, .bool false, .bool false, .int .u16 0, .int .u8 0, .int .u8 0, .int .u32 0, .int .u32 0, .slice none 0 0, .slice none 0 0], .bool false]) ∧ Below W.heap.size W w') := by
    intro L A c W HL g
    have hL := HL.out
    have hl := HLN L hL
    exact Lib.hid (toobig_no cs mtu.toNat A c L W g (by omega) (HOK L hL))
  have wm : IntKind.i64.wrap (mtu.toNat : Int) = (mtu.toNat : Int) := by rw [IntKind.wrap_i64]; omega
  clear hN hh HLN HOK hos hpr hf0 hmt hol
  go_enter Try.func3, Try.ntmps3
  go_wp2_with fail
  refine (HF _).out.mono ?_
  rintro e w_1 ⟨rfl, hbel⟩
  have hB := bnext (bnextA (bnextA (Below.refl w.heap.size w) (.cells cs 33)) (.cells #[.int .u8 (tos.toNat : Int), .int .u16 (id.toNat : Int), .bool false, .bool false, .int .u16 (fo.toNat : Int), .int .u8 (ttl.toNat : Int), .int .u8 (pr.toNat : Int), .int .u32 (s.toNat : Int), .int .u32 (d.toNat : Int), .slice a8 len8 cap8, .slice a9 len9 cap9] 36)) hbel
  have KC := ((Blk.new w cs 33).alloc (.cells #[.int .u8 (tos.toNat : Int), .int .u16 (id.toNat : Int), .bool false, .bool false, .int .u16 (fo.toNat : Int), .int .u8 (ttl.toNat : Int), .int .u8 (pr.toNat : Int), .int .u32 (s.toNat : Int), .int .u32 (d.toNat : Int), .slice a8 len8 cap8, .slice a9 len9 cap9] 36)).next hbel
  have hK : Blk w_1 (w.heap.size + 1) [.int .u8 (tos.toNat : Int), .int .u16 (id.toNat : Int), .bool false, .bool false, .int .u16 (fo.toNat : Int), .int .u8 (ttl.toNat : Int), .int .u8 (pr.toNat : Int), .int .u32 (s.toNat : Int), .int .u32 (d.toNat : Int), .slice a8 len8 cap8, .slice a9 len9 cap9] 36 := by
    have := (Blk.new (w.alloc (.cells cs 33)) #[.int .u8 (tos.toNat : Int), .int .u16 (id.toNat : Int), .bool false, .bool false, .int .u16 (fo.toNat : Int), .int .u8 (ttl.toNat : Int), .int .u8 (pr.toNat : Int), .int .u32 (s.toNat : Int), .int .u32 (d.toNat : Int), .slice a8 len8 cap8, .slice a9 len9 cap9] 36).next hbel
    simpa using this
  obtain ⟨p0, p1, p2, p3, p4, p5, p6, p7, p8, p9, p10, g0, g1, g2, g3, g4, g5, g6, g7, g8, g9, g10⟩ := hK.get11
  clear hbel HF
  go_wp2_with fail
  have hBV := bset11 hB (Nat.le_succ _) (.int .u8 (tos.toNat : Int)) (.int .u16 (id.toNat : Int)) (.bool false) (.bool false) (.int .u16 (fo.toNat : Int)) (.int .u8 (ttl.toNat : Int)) (.int .u8 (pr.toNat : Int)) (.int .u32 (s.toNat : Int)) (.int .u32 (d.toNat : Int)) (.slice a8 os.length cap8) (.slice a9 xs.length cap9)
  have hKV := hK.set11 (u0 := .int .u8 (tos.toNat : Int)) (u1 := .int .u16 (id.toNat : Int)) (u2 := .bool false) (u3 := .bool false) (u4 := .int .u16 (fo.toNat : Int)) (u5 := .int .u8 (ttl.toNat : Int)) (u6 := .int .u8 (pr.toNat : Int)) (u7 := .int .u32 (s.toNat : Int)) (u8 := .int .u32 (d.toNat : Int)) (u9 := .slice a8 os.length cap8) (u10 := .slice a9 xs.length cap9)
  have KCV := KC.oth11 (g' := w.heap.size + 1) (by omega) (u0 := .int .u8 (tos.toNat : Int)) (u1 := .int .u16 (id.toNat : Int)) (u2 := .bool false) (u3 := .bool false) (u4 := .int .u16 (fo.toNat : Int)) (u5 := .int .u8 (ttl.toNat : Int)) (u6 := .int .u8 (pr.toNat : Int)) (u7 := .int .u32 (s.toNat : Int)) (u8 := .int .u32 (d.toNat : Int)) (u9 := .slice a8 os.length cap8) (u10 := .slice a9 xs.length cap9)
  simp only [setAll11] at hBV hKV KCV
  clear p0 p1 p2 p3 p4 p5 p6 p7 p8 p9 p10 g0 g1 g2 g3 g4 g5 g6 g7 g8 g9 g10 hB hK KC
  generalize (((((((((((w_1.setCell ⟨w.heap.size + 1, 0, none⟩ (.int .u8 (tos.toNat : Int))).setCell ⟨w.heap.size + 1, 1, none⟩ (.int .u16 (id.toNat : Int))).setCell ⟨w.heap.size + 1, 2, none⟩ (.bool false)).setCell ⟨w.heap.size + 1, 3, none⟩ (.bool false)).setCell ⟨w.heap.size + 1, 4, none⟩ (.int .u16 (fo.toNat : Int))).setCell ⟨w.heap.size + 1, 5, none⟩ (.int .u8 (ttl.toNat : Int))).setCell ⟨w.heap.size + 1, 6, none⟩ (.int .u8 (pr.toNat : Int))).setCell ⟨w.heap.size + 1, 7, none⟩ (.int .u32 (s.toNat : Int))).setCell ⟨w.heap.size + 1, 8, none⟩ (.int .u32 (d.toNat : Int))).setCell ⟨w.heap.size + 1, 9, none⟩ (.slice a8 os.length cap8)).setCell ⟨w.heap.size + 1, 10, none⟩ (.slice a9 xs.length cap9)) = V at hBV hKV KCV ⊢
  have hB := hBV
  have hK := hKV
  have KC := KCV
  clear hBV hKV KCV
  obtain ⟨p0, p1, p2, p3, p4, p5, p6, p7, p8, p9, p10, -⟩ := hK.get11
  have ho := ho0.next hB
  have hx := hx0.next hB
  clear ho0 hx0
  go_wp2_with fail
  refine (HP1 _ ho hx).out.mono ?_
  rintro e w_2 ⟨L, A, c, rfl, HL, r, hbel⟩
  replace hB := bnext hB hbel
  replace hK := hK.next hbel
  replace KC := KC.next hbel
  clear hbel HP1 ho hx p0 p1 p2 p3 p4 p5 p6 p7 p8 p9 p10
  go_wp2_with (with_reducible refine wpList_ldblk Try.underlying33 (by rw [hcz]; kernel_rfl) KC rfl ?_)
  refine (HTB _ _ _ _ HL r).out.mono ?_
  rintro e w_3 ⟨rfl, hbel⟩
  replace hB := bnextA (bnext hB hbel) (.cells #[.int .u8 0, .int .u16 0, .bool false, .bool false, .int .u16 0, .int .u8 0, .int .u8 0, .int .u32 0, .int .u32 0, .slice none 0 0, .slice none 0 0] 36)
  replace hK := (hK.next hbel).alloc (.cells #[.int .u8 0, .int .u16 0, .bool false, .bool false, .int .u16 0, .int .u8 0, .int .u8 0, .int .u32 0, .int .u32 0, .slice none 0 0, .slice none 0 0] 36)
  clear hbel HTB r KC
  obtain ⟨p0, p1, p2, p3, p4, p5, p6, p7, p8, p9, p10, -⟩ := hK.get11
  go_wp2_with fail
  clear p0 p1 p2 p3 p4 p5 p6 p7 p8 p9 p10 hK
  refine (lives30_any _).mono ?_
  rintro e wl ⟨rfl, hbel⟩
  replace hB := bnext hB hbel
  go_wp2_with fail
  go_ret
  exact ⟨rfl, hB⟩

set_option maxHeartbeats 16000000 in
set_option maxRecDepth 20000 in
theorem tells_no17 (cs : Array Value) (hcz : cs.size = 40) (c0 : UInt32) (_h12 : cs.toList[12]? = some (.int .u32 (c0.toNat : Int))) (tos : UInt8) (id : UInt16)  (fo : UInt16) (ttl pr : UInt8) (s d : UInt32) (a8 a9 : Option Addr) (len8 cap8 len9 cap9 : Nat) (os xs : List UInt8) (mtu : UInt16) (w : World) (h : ¬ 0 < os.length) (h4 : 4 ≤ xs.length) (hxl : xs.length ≤ 300) (hf : ¬ 0 < fo.toNat) (h6 : ((pr.toNat : Int) != 6) = true) (h17 : ((pr.toNat : Int) != 17) = false) (ho0 : Rd bv w w.heap.size a8 cap8 os) (hx0 : Rd bv w w.heap.size a9 cap9 xs)
    (HF : ∀ W, Hid (Calls Try.prog 4 #[.agg #[.int .u8 (tos.toNat : Int), .int .u16 (id.toNat : Int), .bool false, .bool false, .int .u16 (fo.toNat : Int), .int .u8 (ttl.toNat : Int), .int .u8 (pr.toNat : Int), .int .u32 (s.toNat : Int), .int .u32 (d.toNat : Int), .slice a8 len8 cap8, .slice a9 len9 cap9]] W fun e w' => e = .returned (.agg #[.int .u8 (tos.toNat : Int), .int .u16 (id.toNat : Int), .bool false, .bool false, .int .u16 (fo.toNat : Int), .int .u8 (ttl.toNat : Int), .int .u8 (pr.toNat : Int), .int .u32 (s.toNat : Int), .int .u32 (d.toNat : Int), .slice a8 os.length cap8, .slice a9 xs.length cap9]) ∧ Below W.heap.size W w')) :
    Calls Try.prog 3 #[.agg cs, .agg #[.int .u8 (tos.toNat : Int), .int .u16 (id.toNat : Int), .bool false, .bool false, .int .u16 (fo.toNat : Int), .int .u8 (ttl.toNat : Int), .int .u8 (pr.toNat : Int), .int .u32 (s.toNat : Int), .int .u32 (d.toNat : Int), .slice a8 len8 cap8, .slice a9 len9 cap9], .int .u16 (mtu.toNat : Int)] w fun e w' => e = .returned (.bool true) ∧ Below w.heap.size w w' := by
  have h4d : decide ((xs.length : Int) < 4) = false := by simp; omega
  have h4n : ¬ xs.length < 4 := by omega
  have hos := List.eq_nil_of_length_eq_zero (Nat.eq_zero_of_not_pos h)
  have hf0 : fo.toNat = 0 := by omega
  have hpr : pr.toNat = 6 ∨ pr.toNat = 17 := by simp at h17; omega
  obtain ⟨h8, hh⟩ : ∃ h : UInt8, h.toNat = 69 := ⟨69, rfl⟩
  obtain ⟨N, hN⟩ : ∃ N, onesN (ih h8 tos (20 + os.length + xs.length) id (wdN false false fo) ttl pr 0 s d os) = N := ⟨_, rfl⟩
  have hol : os.length = 0 := by omega
  have HP1 : ∀ W (g1 : Rd bv W W.heap.size a8 cap8 os) (g2 : Rd bv W W.heap.size a9 cap9 xs), Hid (Calls Try.prog 6 #[.agg #[.int .u8 (tos.toNat : Int), .int .u16 (id.toNat : Int), .bool false, .bool false, .int .u16 (fo.toNat : Int), .int .u8 (ttl.toNat : Int), .int .u8 (pr.toNat : Int), .int .u32 (s.toNat : Int), .int .u32 (d.toNat : Int), .slice a8 os.length cap8, .slice a9 xs.length cap9]] W fun e w' => ∃ L A c, e = .returned (.tuple #[.slice A L.length c, .int .i64 0]) ∧ Hid (L = ih h8 tos (20 + os.length + xs.length) id (wdN false false fo) ttl pr (65535 - N) s d os ++ xs) ∧ Rd bv w' w'.heap.size A c L ∧ Below W.heap.size W w') := fun W g1 g2 => Lib.hid (rpput_ok tos id false false fo ttl pr s d a8 a9 cap8 cap9 os xs W g1 g2 (by omega) (by omega) (by omega) (by omega) h8 (by omega) N hN)
  have HLN : ∀ L : List UInt8, L = ih h8 tos (20 + os.length + xs.length) id (wdN false false fo) ttl pr (65535 - N) s d os ++ xs → L.length = 20 + xs.length := fun L h => by rw [h, List.length_append, ih_len]; omega
  have HOK := fun (L : List UInt8) (hL : L = ih h8 tos (20 + os.length + xs.length) id (wdN false false fo) ttl pr (65535 - N) s d os ++ xs) => ipok_put h8 tos id false false fo ttl pr s d os xs [] L N (by omega) (by omega) (by omega) (by omega) (by omega) hN (by rw [hL, List.append_nil])
  have hmt := mtu.toNat_lt
  have HTB : ∀ L A c W, Hid (L = ih h8 tos (20 + os.length + xs.length) id (wdN false false fo) ttl pr (65535 - N) s d os ++ xs) → Rd bv W W.heap.size A c L → Hid (Calls Try.prog 7 #[.agg cs, .slice A L.length c, .int .i64 (mtu.toNat : Int)] W fun e w' => e = .returned (.tuple #[.agg #[.int .u8 0, .int .u16 0, .bool false, .bool false, .int .u16 0, .int .u8 0, .int .u8 0, .int .u32 0, .int .u32 0, .slice none 0 0, .slice none 0 0], .bool false]) ∧ Below W.heap.size W w') := by
    intro L A c W HL g
    have hL := HL.out
    have hl := HLN L hL
    exact Lib.hid (toobig_no cs mtu.toNat A c L W g (by omega) (HOK L hL))
  have wm : IntKind.i64.wrap (mtu.toNat : Int) = (mtu.toNat : Int) := by rw [IntKind.wrap_i64]; omega
  clear hN hh HLN HOK hos hpr hf0 hmt hol
  go_enter Try.func3, Try.ntmps3
  go_wp2_with fail
  refine (HF _).out.mono ?_
  rintro e w_1 ⟨rfl, hbel⟩
  have hB := bnext (bnextA (bnextA (Below.refl w.heap.size w) (.cells cs 33)) (.cells #[.int .u8 (tos.toNat : Int), .int .u16 (id.toNat : Int), .bool false, .bool false, .int .u16 (fo.toNat : Int), .int .u8 (ttl.toNat : Int), .int .u8 (pr.toNat : Int), .int .u32 (s.toNat : Int), .int .u32 (d.toNat : Int), .slice a8 len8 cap8, .slice a9 len9 cap9] 36)) hbel
  have KC := ((Blk.new w cs 33).alloc (.cells #[.int .u8 (tos.toNat : Int), .int .u16 (id.toNat : Int), .bool false, .bool false, .int .u16 (fo.toNat : Int), .int .u8 (ttl.toNat : Int), .int .u8 (pr.toNat : Int), .int .u32 (s.toNat : Int), .int .u32 (d.toNat : Int), .slice a8 len8 cap8, .slice a9 len9 cap9] 36)).next hbel
  have hK : Blk w_1 (w.heap.size + 1) [.int .u8 (tos.toNat : Int), .int .u16 (id.toNat : Int), .bool false, .bool false, .int .u16 (fo.toNat : Int), .int .u8 (ttl.toNat : Int), .int .u8 (pr.toNat : Int), .int .u32 (s.toNat : Int), .int .u32 (d.toNat : Int), .slice a8 len8 cap8, .slice a9 len9 cap9] 36 := by
    have := (Blk.new (w.alloc (.cells cs 33)) #[.int .u8 (tos.toNat : Int), .int .u16 (id.toNat : Int), .bool false, .bool false, .int .u16 (fo.toNat : Int), .int .u8 (ttl.toNat : Int), .int .u8 (pr.toNat : Int), .int .u32 (s.toNat : Int), .int .u32 (d.toNat : Int), .slice a8 len8 cap8, .slice a9 len9 cap9] 36).next hbel
    simpa using this
  obtain ⟨p0, p1, p2, p3, p4, p5, p6, p7, p8, p9, p10, g0, g1, g2, g3, g4, g5, g6, g7, g8, g9, g10⟩ := hK.get11
  clear hbel HF
  go_wp2_with fail
  have hBV := bset11 hB (Nat.le_succ _) (.int .u8 (tos.toNat : Int)) (.int .u16 (id.toNat : Int)) (.bool false) (.bool false) (.int .u16 (fo.toNat : Int)) (.int .u8 (ttl.toNat : Int)) (.int .u8 (pr.toNat : Int)) (.int .u32 (s.toNat : Int)) (.int .u32 (d.toNat : Int)) (.slice a8 os.length cap8) (.slice a9 xs.length cap9)
  have hKV := hK.set11 (u0 := .int .u8 (tos.toNat : Int)) (u1 := .int .u16 (id.toNat : Int)) (u2 := .bool false) (u3 := .bool false) (u4 := .int .u16 (fo.toNat : Int)) (u5 := .int .u8 (ttl.toNat : Int)) (u6 := .int .u8 (pr.toNat : Int)) (u7 := .int .u32 (s.toNat : Int)) (u8 := .int .u32 (d.toNat : Int)) (u9 := .slice a8 os.length cap8) (u10 := .slice a9 xs.length cap9)
  have KCV := KC.oth11 (g' := w.heap.size + 1) (by omega) (u0 := .int .u8 (tos.toNat : Int)) (u1 := .int .u16 (id.toNat : Int)) (u2 := .bool false) (u3 := .bool false) (u4 := .int .u16 (fo.toNat : Int)) (u5 := .int .u8 (ttl.toNat : Int)) (u6 := .int .u8 (pr.toNat : Int)) (u7 := .int .u32 (s.toNat : Int)) (u8 := .int .u32 (d.toNat : Int)) (u9 := .slice a8 os.length cap8) (u10 := .slice a9 xs.length cap9)
  simp only [setAll11] at hBV hKV KCV
  clear p0 p1 p2 p3 p4 p5 p6 p7 p8 p9 p10 g0 g1 g2 g3 g4 g5 g6 g7 g8 g9 g10 hB hK KC
  generalize (((((((((((w_1.setCell ⟨w.heap.size + 1, 0, none⟩ (.int .u8 (tos.toNat : Int))).setCell ⟨w.heap.size + 1, 1, none⟩ (.int .u16 (id.toNat : Int))).setCell ⟨w.heap.size + 1, 2, none⟩ (.bool false)).setCell ⟨w.heap.size + 1, 3, none⟩ (.bool false)).setCell ⟨w.heap.size + 1, 4, none⟩ (.int .u16 (fo.toNat : Int))).setCell ⟨w.heap.size + 1, 5, none⟩ (.int .u8 (ttl.toNat : Int))).setCell ⟨w.heap.size + 1, 6, none⟩ (.int .u8 (pr.toNat : Int))).setCell ⟨w.heap.size + 1, 7, none⟩ (.int .u32 (s.toNat : Int))).setCell ⟨w.heap.size + 1, 8, none⟩ (.int .u32 (d.toNat : Int))).setCell ⟨w.heap.size + 1, 9, none⟩ (.slice a8 os.length cap8)).setCell ⟨w.heap.size + 1, 10, none⟩ (.slice a9 xs.length cap9)) = V at hBV hKV KCV ⊢
  have hB := hBV
  have hK := hKV
  have KC := KCV
  clear hBV hKV KCV
  obtain ⟨p0, p1, p2, p3, p4, p5, p6, p7, p8, p9, p10, -⟩ := hK.get11
  have ho := ho0.next hB
  have hx := hx0.next hB
  clear ho0 hx0
  go_wp2_with fail
  refine (HP1 _ ho hx).out.mono ?_
  rintro e w_2 ⟨L, A, c, rfl, HL, r, hbel⟩
  replace hB := bnext hB hbel
  replace hK := hK.next hbel
  replace KC := KC.next hbel
  clear hbel HP1 ho hx p0 p1 p2 p3 p4 p5 p6 p7 p8 p9 p10
  go_wp2_with (with_reducible refine wpList_ldblk Try.underlying33 (by rw [hcz]; kernel_rfl) KC rfl ?_)
  refine (HTB _ _ _ _ HL r).out.mono ?_
  rintro e w_3 ⟨rfl, hbel⟩
  replace hB := bnextA (bnext hB hbel) (.cells #[.int .u8 0, .int .u16 0, .bool false, .bool false, .int .u16 0, .int .u8 0, .int .u8 0, .int .u32 0, .int .u32 0, .slice none 0 0, .slice none 0 0] 36)
  replace hK := (hK.next hbel).alloc (.cells #[.int .u8 0, .int .u16 0, .bool false, .bool false, .int .u16 0, .int .u8 0, .int .u8 0, .int .u32 0, .int .u32 0, .slice none 0 0, .slice none 0 0] 36)
  clear hbel HTB r KC
  obtain ⟨p0, p1, p2, p3, p4, p5, p6, p7, p8, p9, p10, -⟩ := hK.get11
  go_wp2_with fail
  clear p0 p1 p2 p3 p4 p5 p6 p7 p8 p9 p10 hK
  refine (lives30_any _).mono ?_
  rintro e wl ⟨rfl, hbel⟩
  replace hB := bnext hB hbel
  go_wp2_with fail
  go_ret
  exact ⟨rfl, hB⟩

set_option maxHeartbeats 16000000 in
set_option maxRecDepth 20000 in
theorem tells_yes6 (cs : Array Value) (hcz : cs.size = 40) (c0 : UInt32) (h12 : cs.toList[12]? = some (.int .u32 (c0.toNat : Int))) (tos : UInt8) (id : UInt16)  (fo : UInt16) (ttl pr : UInt8) (s d : UInt32) (a8 a9 : Option Addr) (len8 cap8 len9 cap9 : Nat) (os xs : List UInt8) (mtu : UInt16) (w : World) (h : ¬ 0 < os.length) (h4 : 4 ≤ xs.length) (hxl : xs.length ≤ 300) (hf : ¬ 0 < fo.toNat) (h6 : ((pr.toNat : Int) != 6) = false) (ho0 : Rd bv w w.heap.size a8 cap8 os) (hx0 : Rd bv w w.heap.size a9 cap9 xs)
    (HF : ∀ W, Hid (Calls Try.prog 4 #[.agg #[.int .u8 (tos.toNat : Int), .int .u16 (id.toNat : Int), .bool true, .bool false, .int .u16 (fo.toNat : Int), .int .u8 (ttl.toNat : Int), .int .u8 (pr.toNat : Int), .int .u32 (s.toNat : Int), .int .u32 (d.toNat : Int), .slice a8 len8 cap8, .slice a9 len9 cap9]] W fun e w' => e = .returned (.agg #[.int .u8 (tos.toNat : Int), .int .u16 (id.toNat : Int), .bool true, .bool false, .int .u16 (fo.toNat : Int), .int .u8 (ttl.toNat : Int), .int .u8 (pr.toNat : Int), .int .u32 (s.toNat : Int), .int .u32 (d.toNat : Int), .slice a8 os.length cap8, .slice a9 xs.length cap9]) ∧ Below W.heap.size W w')) :
    Calls Try.prog 3 #[.agg cs, .agg #[.int .u8 (tos.toNat : Int), .int .u16 (id.toNat : Int), .bool true, .bool false, .int .u16 (fo.toNat : Int), .int .u8 (ttl.toNat : Int), .int .u8 (pr.toNat : Int), .int .u32 (s.toNat : Int), .int .u32 (d.toNat : Int), .slice a8 len8 cap8, .slice a9 len9 cap9], .int .u16 (mtu.toNat : Int)] w fun e w' => e = .returned (.bool true) ∧ Below w.heap.size w w' := by
  have h4d : decide ((xs.length : Int) < 4) = false := by simp; omega
  have h4n : ¬ xs.length < 4 := by omega
  have hos := List.eq_nil_of_length_eq_zero (Nat.eq_zero_of_not_pos h)
  have hf0 : fo.toNat = 0 := by omega
  have hpr : pr.toNat = 6 ∨ pr.toNat = 17 := by simp at h6; omega
  obtain ⟨h8, hh⟩ : ∃ h : UInt8, h.toNat = 69 := ⟨69, rfl⟩
  obtain ⟨N, hN⟩ : ∃ N, onesN (ih h8 tos (20 + os.length + xs.length) id (wdN true false fo) ttl pr 0 s d os) = N := ⟨_, rfl⟩
  have hol : os.length = 0 := by omega
  have HP1 : ∀ W (g1 : Rd bv W W.heap.size a8 cap8 os) (g2 : Rd bv W W.heap.size a9 cap9 xs), Hid (Calls Try.prog 6 #[.agg #[.int .u8 (tos.toNat : Int), .int .u16 (id.toNat : Int), .bool true, .bool false, .int .u16 (fo.toNat : Int), .int .u8 (ttl.toNat : Int), .int .u8 (pr.toNat : Int), .int .u32 (s.toNat : Int), .int .u32 (d.toNat : Int), .slice a8 os.length cap8, .slice a9 xs.length cap9]] W fun e w' => ∃ L A c, e = .returned (.tuple #[.slice A L.length c, .int .i64 0]) ∧ Hid (L = ih h8 tos (20 + os.length + xs.length) id (wdN true false fo) ttl pr (65535 - N) s d os ++ xs) ∧ Rd bv w' w'.heap.size A c L ∧ Below W.heap.size W w') := fun W g1 g2 => Lib.hid (rpput_ok tos id true false fo ttl pr s d a8 a9 cap8 cap9 os xs W g1 g2 (by omega) (by omega) (by omega) (by omega) h8 (by omega) N hN)
  have HLN : ∀ L : List UInt8, L = ih h8 tos (20 + os.length + xs.length) id (wdN true false fo) ttl pr (65535 - N) s d os ++ xs → L.length = 20 + xs.length := fun L h => by rw [h, List.length_append, ih_len]; omega
  have HOK := fun (L : List UInt8) (hL : L = ih h8 tos (20 + os.length + xs.length) id (wdN true false fo) ttl pr (65535 - N) s d os ++ xs) => ipok_put h8 tos id true false fo ttl pr s d os xs [] L N (by omega) (by omega) (by omega) (by omega) (by omega) hN (by rw [hL, List.append_nil])
  obtain ⟨re, hre⟩ : ∃ a : UInt32, a.toNat = mtu.toNat := ⟨UInt32.ofNat mtu.toNat, by simp⟩
  have hmt := mtu.toNat_lt
  obtain ⟨P28, hP28⟩ : ∃ l, (ih h8 tos (20 + os.length + xs.length) id (wdN true false fo) ttl pr (65535 - N) s d os ++ xs).take 28 = l := ⟨_, rfl⟩
  obtain ⟨N2, hN2⟩ : ∃ N2, onesN ([3, 4, 0, 0] ++ (be32 re ++ P28)) = N2 := ⟨_, rfl⟩
  obtain ⟨BY, hBY⟩ : ∃ l, [3, 4, UInt8.ofNat ((65535 - N2) / 256), UInt8.ofNat ((65535 - N2) % 256)] ++ (be32 re ++ P28) = l := ⟨_, rfl⟩
  have hBL : BY.length = 8 + P28.length := by rw [← hBY]; simp [be32]; omega
  have hPL : P28.length ≤ 28 := by rw [← hP28]; simp; omega
  have HTB : ∀ L A c W, Hid (L = ih h8 tos (20 + os.length + xs.length) id (wdN true false fo) ttl pr (65535 - N) s d os ++ xs) → Rd bv W W.heap.size A c L → Hid (Calls Try.prog 7 #[.agg cs, .slice A L.length c, .int .i64 (mtu.toNat : Int)] W fun e w' => ∃ L3 A3 c3, e = .returned (.tuple #[.agg #[.int .u8 0, .int .u16 0, .bool true, .bool false, .int .u16 0, .int .u8 64, .int .u8 1, .int .u32 (c0.toNat : Int), .int .u32 (s.toNat : Int), .slice none 0 0, .slice A3 L3.length c3], .bool true]) ∧ Hid (L3 = BY) ∧ Rd bv w' w'.heap.size A3 c3 L3 ∧ Below W.heap.size W w') := by
    intro L A c W HL g
    have hL := HL.out
    have hl := HLN L hL
    have h := toobig_yes cs c0 h12 mtu.toNat (by omega) A c L W g (by omega) (HOK L hL) (by simp; omega) (by omega) re hre N2 (by rw [hL, hP28]; exact hN2)
    rw [hL, hP28, hBY] at h
    rw [hL]
    exact Lib.hid h
  obtain ⟨ty, t0⟩ : ∃ a : UInt8, a = 3 := ⟨_, rfl⟩
  obtain ⟨cc, t1⟩ : ∃ a : UInt8, a = 4 := ⟨_, rfl⟩
  have e0 : (ty.toNat : Int) = 3 := by rw [t0]; rfl
  have e1 : (cc.toNat : Int) = 4 := by rw [t1]; rfl
  have HIP : ∀ L A c W, Hid (L = BY) → Rd bv W W.heap.size A c L → Hid (Calls Try.prog 8 #[.slice A L.length c] W fun e w' => ∃ L4 A4 c4, e = .returned (.tuple #[.agg #[.int .u8 3, .int .u8 4, .int .u32 (mtu.toNat : Int), .slice A4 L4.length c4], .int .i64 0]) ∧ Hid (L4 = P28) ∧ Rd bv w' w'.heap.size A4 c4 L4 ∧ Below W.heap.size W w') := by
    intro L A c W HL g
    have hL := HL.out
    have h := iparse_put ty cc _ _ re P28 L A c W g (by rw [hL, ← hBY, t0, t1]) (by omega) (by rw [hL, ← hBY]; exact put_sum 3 4 _ N2 hN2)
    simp only [e0, e1, hre] at h
    exact Lib.hid h
  obtain ⟨ys, hys⟩ : ∃ ys, ys = xs.take 8 := ⟨_, rfl⟩
  have hyl : 4 ≤ ys.length := by rw [hys]; simp; omega
  obtain ⟨x0, x1, HQ⟩ : ∃ x0 x1 : Int, ∀ L A c W, Hid (L = P28) → Rd bv W W.heap.size A c L → Hid (Calls Try.prog 9 #[.agg #[.int .u8 3, .int .u8 4, .int .u32 (mtu.toNat : Int), .slice A L.length c]] W fun e w' => e = .returned (.tuple #[.agg #[.int .u32 (s.toNat : Int), .int .u32 (d.toNat : Int), .int .u16 x0, .int .u16 x1, .int .u8 (pr.toNat : Int)], .int .i64 0]) ∧ Below W.heap.size W w') := by
    refine ⟨((ys[0].toNat * 256 + ys[1].toNat : Nat) : Int), ((ys[2].toNat * 256 + ys[3].toNat : Nat) : Int), fun L A c W HL g => ?_⟩
    · have hL := HL.out
      subst hos
      have h := qof_put ty cc re (by rw [t0]; rfl) h8 tos _ id true false fo ttl pr N s d xs L ys (by omega) (by omega) hN (by rw [hL, ← hP28]) hys (s.toNat : Int) (d.toNat : Int) _ _ (pr.toNat : Int) 0 (fun v0 v1 v2 v5 v9 A c W g => fof_okP v0 v1 v2 v5 v9 _ _ _ A c ys (by simp; omega) W g hyl pr hpr) A c W g
      simp only [e0, e1, hre] at h
      exact Lib.hid h
  obtain ⟨z16, e16⟩ : ∃ a : UInt16, (a.toNat : Int) = 0 := ⟨0, rfl⟩
  obtain ⟨z8, ez8⟩ : ∃ a : UInt8, (a.toNat : Int) = 0 := ⟨0, rfl⟩
  obtain ⟨t64, e64⟩ : ∃ a : UInt8, (a.toNat : Int) = 64 := ⟨64, rfl⟩
  obtain ⟨p1, ep1⟩ : ∃ a : UInt8, (a.toNat : Int) = 1 := ⟨1, rfl⟩
  obtain ⟨N3, hN3⟩ : ∃ N3, onesN (ih h8 z8 (20 + ([] : List UInt8).length + BY.length) z16 (wdN true false z16) t64 p1 0 c0 s []) = N3 := ⟨_, rfl⟩
  have HPX : ∀ L A c W, Hid (L = BY) → Rd bv W W.heap.size A c L → Hid (Calls Try.prog 10 #[.agg #[.int .u8 0, .int .u16 0, .bool true, .bool false, .int .u16 0, .int .u8 64, .int .u8 1, .int .u32 (c0.toNat : Int), .int .u32 (s.toNat : Int), .slice none 0 0, .slice A L.length c]] W fun e w' => ∃ (L' : List UInt8) (A' : Option Addr) (c' : Nat), e = .returned (.tuple #[.slice A' L'.length c', .int .i64 0]) ∧ Hid (L'.length = 20 + BY.length) ∧ Below W.heap.size W w') := by
    intro L A c W HL g
    have hL := HL.out
    subst hL
    have h := pput_ok z8 z16 true false z16 t64 p1 c0 s none A 0 c [] L W (Rd.nil0 _ _ _) g (by simp) (by simp) (by omega) (by simp; omega) h8 (by simp; omega) N3 hN3
    simp only [e16, ez8, e64, ep1] at h
    refine Lib.hid (h.mono ?_)
    rintro e w' ⟨L', A', c', rfl, HL', -, hb⟩
    exact ⟨L', A', c', rfl, by rw [HL'.out, List.length_append, ih_len]; simp [Hid], hb⟩
  have HFW : ∀ L A c, Hid (L = ih h8 tos (20 + os.length + xs.length) id (wdN true false fo) ttl pr (65535 - N) s d os ++ xs) → (∃ B W0, Rd bv W0 B A c L) → ∃ n : Nat, n ≤ 28 ∧ (28 + BY.length : Nat) = 36 + n ∧ ∀ W, Hid (Calls Try.prog 11 #[.slice A L.length c, .int .i64 28] W fun e w' => e = .returned (.slice A n c) ∧ W = w') := by
    intro L A c HL ⟨B, W0, g⟩
    refine ⟨min L.length 28, by omega, by rw [hBL, ← hP28, ← HL.out]; simp; omega, fun W => Lib.hid ?_⟩
    have := few_le A L.length c 28 W g.len g.cap (by omega)
    exact this
  have wm : IntKind.i64.wrap (mtu.toNat : Int) = (mtu.toNat : Int) := by rw [IntKind.wrap_i64]; omega
  have wu : IntKind.u32.wrap (mtu.toNat : Int) = (mtu.toNat : Int) := by rw [IntKind.wrap_u32]; omega
  clear hN hh HLN HOK hos hpr hf0 hmt hol h12 t0 t1 e0 e1 e16 ez8 e64 ep1 hN2 hN3 hBY hP28 hre hys hyl hPL
  go_enter Try.func3, Try.ntmps3
  go_wp2_with fail
  refine (HF _).out.mono ?_
  rintro e w_1 ⟨rfl, hbel⟩
  have hB := bnext (bnextA (bnextA (Below.refl w.heap.size w) (.cells cs 33)) (.cells #[.int .u8 (tos.toNat : Int), .int .u16 (id.toNat : Int), .bool true, .bool false, .int .u16 (fo.toNat : Int), .int .u8 (ttl.toNat : Int), .int .u8 (pr.toNat : Int), .int .u32 (s.toNat : Int), .int .u32 (d.toNat : Int), .slice a8 len8 cap8, .slice a9 len9 cap9] 36)) hbel
  have KC := ((Blk.new w cs 33).alloc (.cells #[.int .u8 (tos.toNat : Int), .int .u16 (id.toNat : Int), .bool true, .bool false, .int .u16 (fo.toNat : Int), .int .u8 (ttl.toNat : Int), .int .u8 (pr.toNat : Int), .int .u32 (s.toNat : Int), .int .u32 (d.toNat : Int), .slice a8 len8 cap8, .slice a9 len9 cap9] 36)).next hbel
  have hK : Blk w_1 (w.heap.size + 1) [.int .u8 (tos.toNat : Int), .int .u16 (id.toNat : Int), .bool true, .bool false, .int .u16 (fo.toNat : Int), .int .u8 (ttl.toNat : Int), .int .u8 (pr.toNat : Int), .int .u32 (s.toNat : Int), .int .u32 (d.toNat : Int), .slice a8 len8 cap8, .slice a9 len9 cap9] 36 := by
    have := (Blk.new (w.alloc (.cells cs 33)) #[.int .u8 (tos.toNat : Int), .int .u16 (id.toNat : Int), .bool true, .bool false, .int .u16 (fo.toNat : Int), .int .u8 (ttl.toNat : Int), .int .u8 (pr.toNat : Int), .int .u32 (s.toNat : Int), .int .u32 (d.toNat : Int), .slice a8 len8 cap8, .slice a9 len9 cap9] 36).next hbel
    simpa using this
  obtain ⟨p0, p1, p2, p3, p4, p5, p6, p7, p8, p9, p10, g0, g1, g2, g3, g4, g5, g6, g7, g8, g9, g10⟩ := hK.get11
  clear hbel HF
  go_wp2_with fail
  have hBV := bset11 hB (Nat.le_succ _) (.int .u8 (tos.toNat : Int)) (.int .u16 (id.toNat : Int)) (.bool true) (.bool false) (.int .u16 (fo.toNat : Int)) (.int .u8 (ttl.toNat : Int)) (.int .u8 (pr.toNat : Int)) (.int .u32 (s.toNat : Int)) (.int .u32 (d.toNat : Int)) (.slice a8 os.length cap8) (.slice a9 xs.length cap9)
  have hKV := hK.set11 (u0 := .int .u8 (tos.toNat : Int)) (u1 := .int .u16 (id.toNat : Int)) (u2 := .bool true) (u3 := .bool false) (u4 := .int .u16 (fo.toNat : Int)) (u5 := .int .u8 (ttl.toNat : Int)) (u6 := .int .u8 (pr.toNat : Int)) (u7 := .int .u32 (s.toNat : Int)) (u8 := .int .u32 (d.toNat : Int)) (u9 := .slice a8 os.length cap8) (u10 := .slice a9 xs.length cap9)
  have KCV := KC.oth11 (g' := w.heap.size + 1) (by omega) (u0 := .int .u8 (tos.toNat : Int)) (u1 := .int .u16 (id.toNat : Int)) (u2 := .bool true) (u3 := .bool false) (u4 := .int .u16 (fo.toNat : Int)) (u5 := .int .u8 (ttl.toNat : Int)) (u6 := .int .u8 (pr.toNat : Int)) (u7 := .int .u32 (s.toNat : Int)) (u8 := .int .u32 (d.toNat : Int)) (u9 := .slice a8 os.length cap8) (u10 := .slice a9 xs.length cap9)
  simp only [setAll11] at hBV hKV KCV
  clear p0 p1 p2 p3 p4 p5 p6 p7 p8 p9 p10 g0 g1 g2 g3 g4 g5 g6 g7 g8 g9 g10 hB hK KC
  generalize (((((((((((w_1.setCell ⟨w.heap.size + 1, 0, none⟩ (.int .u8 (tos.toNat : Int))).setCell ⟨w.heap.size + 1, 1, none⟩ (.int .u16 (id.toNat : Int))).setCell ⟨w.heap.size + 1, 2, none⟩ (.bool true)).setCell ⟨w.heap.size + 1, 3, none⟩ (.bool false)).setCell ⟨w.heap.size + 1, 4, none⟩ (.int .u16 (fo.toNat : Int))).setCell ⟨w.heap.size + 1, 5, none⟩ (.int .u8 (ttl.toNat : Int))).setCell ⟨w.heap.size + 1, 6, none⟩ (.int .u8 (pr.toNat : Int))).setCell ⟨w.heap.size + 1, 7, none⟩ (.int .u32 (s.toNat : Int))).setCell ⟨w.heap.size + 1, 8, none⟩ (.int .u32 (d.toNat : Int))).setCell ⟨w.heap.size + 1, 9, none⟩ (.slice a8 os.length cap8)).setCell ⟨w.heap.size + 1, 10, none⟩ (.slice a9 xs.length cap9)) = V at hBV hKV KCV ⊢
  have hB := hBV
  have hK := hKV
  have KC := KCV
  clear hBV hKV KCV
  obtain ⟨p0, p1, p2, p3, p4, p5, p6, p7, p8, p9, p10, -⟩ := hK.get11
  have ho := ho0.next hB
  have hx := hx0.next hB
  clear ho0 hx0
  go_wp2_with fail
  refine (HP1 _ ho hx).out.mono ?_
  rintro e w_2 ⟨L, A, c, rfl, HL, r, hbel⟩
  replace hB := bnext hB hbel
  replace hK := hK.next hbel
  replace KC := KC.next hbel
  clear hbel HP1 ho hx p0 p1 p2 p3 p4 p5 p6 p7 p8 p9 p10
  go_wp2_with (with_reducible refine wpList_ldblk Try.underlying33 (by rw [hcz]; kernel_rfl) KC rfl ?_)
  refine (HTB _ _ _ _ HL r).out.mono ?_
  rintro e w_3 ⟨L3, A3, c3, rfl, HL3, r3, hbel⟩
  replace hB := bnextA (bnext hB hbel) (.cells #[.int .u8 0, .int .u16 0, .bool true, .bool false, .int .u16 0, .int .u8 64, .int .u8 1, .int .u32 (c0.toNat : Int), .int .u32 (s.toNat : Int), .slice none 0 0, .slice A3 L3.length c3] 36)
  replace hK := (hK.next hbel).alloc (.cells #[.int .u8 0, .int .u16 0, .bool true, .bool false, .int .u16 0, .int .u8 64, .int .u8 1, .int .u32 (c0.toNat : Int), .int .u32 (s.toNat : Int), .slice none 0 0, .slice A3 L3.length c3] 36)
  replace r := (r.next hbel).nextA (.cells #[.int .u8 0, .int .u16 0, .bool true, .bool false, .int .u16 0, .int .u8 64, .int .u8 1, .int .u32 (c0.toNat : Int), .int .u32 (s.toNat : Int), .slice none 0 0, .slice A3 L3.length c3] 36)
  replace r3 := r3.nextA (.cells #[.int .u8 0, .int .u16 0, .bool true, .bool false, .int .u16 0, .int .u8 64, .int .u8 1, .int .u32 (c0.toNat : Int), .int .u32 (s.toNat : Int), .slice none 0 0, .slice A3 L3.length c3] 36)
  have KX := Blk.new w_3 #[.int .u8 0, .int .u16 0, .bool true, .bool false, .int .u16 0, .int .u8 64, .int .u8 1, .int .u32 (c0.toNat : Int), .int .u32 (s.toNat : Int), .slice none 0 0, .slice A3 L3.length c3] 36
  clear hbel HTB KC
  obtain ⟨p0, p1, p2, p3, p4, p5, p6, p7, p8, p9, p10, -⟩ := hK.get11
  obtain ⟨t0, t1, t2, t3, t4, t5, t6, t7, t8, t9, t10, -⟩ := KX.get11
  go_wp2_with fail
  clear p0 p1 p2 p3 p4 p5 p6 p7 p8 p9 p10 t0 t1 t2 t3 t4 t5 t6 t7 t8 t9 t10
  generalize w_3.heap.size = GX at *
  generalize w_3.alloc (.cells #[.int .u8 0, .int .u16 0, .bool true, .bool false, .int .u16 0, .int .u8 64, .int .u8 1, .int .u32 (c0.toNat : Int), .int .u32 (s.toNat : Int), .slice none 0 0, .slice A3 L3.length c3] 36) = V3 at *
  refine (HIP _ _ _ _ HL3 r3).out.mono ?_
  rintro e w_4 ⟨L4, A4, c4, rfl, HL4, r4, hbel⟩
  replace hB := bnextA (bnext hB hbel) (.cells #[.int .u8 3, .int .u8 4, .int .u32 (mtu.toNat : Int), .slice A4 L4.length c4] 44)
  replace hK := (hK.next hbel).alloc (.cells #[.int .u8 3, .int .u8 4, .int .u32 (mtu.toNat : Int), .slice A4 L4.length c4] 44)
  replace KX := (KX.next hbel).alloc (.cells #[.int .u8 3, .int .u8 4, .int .u32 (mtu.toNat : Int), .slice A4 L4.length c4] 44)
  replace r := (r.next hbel).nextA (.cells #[.int .u8 3, .int .u8 4, .int .u32 (mtu.toNat : Int), .slice A4 L4.length c4] 44)
  replace r3 := (r3.next hbel).nextA (.cells #[.int .u8 3, .int .u8 4, .int .u32 (mtu.toNat : Int), .slice A4 L4.length c4] 44)
  replace r4 := r4.nextA (.cells #[.int .u8 3, .int .u8 4, .int .u32 (mtu.toNat : Int), .slice A4 L4.length c4] 44)
  have KM := Blk.new w_4 #[.int .u8 3, .int .u8 4, .int .u32 (mtu.toNat : Int), .slice A4 L4.length c4] 44
  clear hbel HIP
  obtain ⟨q0, q1, q2, q3, -⟩ := KM.get4
  go_wp2_with fail
  clear q0 q1 q2 q3
  generalize w_4.heap.size = GM at *
  generalize w_4.alloc (.cells #[.int .u8 3, .int .u8 4, .int .u32 (mtu.toNat : Int), .slice A4 L4.length c4] 44) = V4 at *
  refine (HQ _ _ _ _ HL4 r4).out.mono ?_
  rintro e w_5 ⟨rfl, hbel⟩
  replace hB := bnextA (bnext hB hbel) (.cells #[.int .u32 (s.toNat : Int), .int .u32 (d.toNat : Int), .int .u16 x0, .int .u16 x1, .int .u8 (pr.toNat : Int)] 49)
  replace hK := (hK.next hbel).alloc (.cells #[.int .u32 (s.toNat : Int), .int .u32 (d.toNat : Int), .int .u16 x0, .int .u16 x1, .int .u8 (pr.toNat : Int)] 49)
  replace KX := (KX.next hbel).alloc (.cells #[.int .u32 (s.toNat : Int), .int .u32 (d.toNat : Int), .int .u16 x0, .int .u16 x1, .int .u8 (pr.toNat : Int)] 49)
  replace KM := (KM.next hbel).alloc (.cells #[.int .u32 (s.toNat : Int), .int .u32 (d.toNat : Int), .int .u16 x0, .int .u16 x1, .int .u8 (pr.toNat : Int)] 49)
  replace r := (r.next hbel).nextA (.cells #[.int .u32 (s.toNat : Int), .int .u32 (d.toNat : Int), .int .u16 x0, .int .u16 x1, .int .u8 (pr.toNat : Int)] 49)
  replace r3 := (r3.next hbel).nextA (.cells #[.int .u32 (s.toNat : Int), .int .u32 (d.toNat : Int), .int .u16 x0, .int .u16 x1, .int .u8 (pr.toNat : Int)] 49)
  have KF := Blk.new w_5 #[.int .u32 (s.toNat : Int), .int .u32 (d.toNat : Int), .int .u16 x0, .int .u16 x1, .int .u8 (pr.toNat : Int)] 49
  clear hbel HQ r4 HL4
  obtain ⟨t0, t1, t2, t3, t4, t5, t6, t7, t8, t9, t10, -⟩ := KX.get11
  go_wp2_with fail
  clear t0 t1 t2 t3 t4 t5 t6 t7 t8 t9 t10
  generalize w_5.heap.size = GF at *
  generalize w_5.alloc (.cells #[.int .u32 (s.toNat : Int), .int .u32 (d.toNat : Int), .int .u16 x0, .int .u16 x1, .int .u8 (pr.toNat : Int)] 49) = V5 at *
  refine (HPX _ _ _ _ HL3 r3).out.mono ?_
  rintro e w_6 ⟨L6, A6, c6, rfl, HL6, hbel⟩
  replace hB := bnext hB hbel
  replace hK := hK.next hbel
  replace KX := KX.next hbel
  replace KM := KM.next hbel
  replace KF := KF.next hbel
  replace r := r.next hbel
  clear hbel HPX r3 HL3
  obtain ⟨n, hn28, hn, HFe⟩ := HFW _ _ _ HL ⟨_, _, r⟩
  have hl6 : (L6.length : Int) = 28 + (n : Int) := by rw [HL6.out]; omega
  have wl : IntKind.i64.wrap (28 + (n : Int)) = 28 + (n : Int) := by rw [IntKind.wrap_i64]; omega
  clear hn28
  obtain ⟨p0, p1, p2, p3, p4, p5, p6, p7, p8, p9, p10, -⟩ := hK.get11
  obtain ⟨t0, t1, t2, t3, t4, t5, t6, t7, t8, t9, t10, -⟩ := KX.get11
  obtain ⟨q0, q1, q2, q3, -⟩ := KM.get4
  obtain ⟨f0, f1, f2, f3, f4, -⟩ := fl_cells KF
  clear hK KX KM KF HFW HL6 hn r HL
  go_wp2_with fail
  refine (HFe _).out.mono ?_
  rintro e w_7 ⟨rfl, rfl⟩
  go_wp2_with fail
  clear p0 p1 p2 p3 p4 p5 p6 p7 p8 p9 p10 t0 t1 t2 t3 t4 t5 t6 t7 t8 t9 t10 q0 q1 q2 q3 f0 f1 f2 f3 f4
  refine (lives30_any _).mono ?_
  rintro e wl ⟨rfl, hbel⟩
  replace hB := bnext hB hbel
  go_wp2_with fail
  go_ret
  exact ⟨rfl, hB⟩

set_option maxHeartbeats 16000000 in
set_option maxRecDepth 20000 in
theorem tells_yes17 (cs : Array Value) (hcz : cs.size = 40) (c0 : UInt32) (h12 : cs.toList[12]? = some (.int .u32 (c0.toNat : Int))) (tos : UInt8) (id : UInt16)  (fo : UInt16) (ttl pr : UInt8) (s d : UInt32) (a8 a9 : Option Addr) (len8 cap8 len9 cap9 : Nat) (os xs : List UInt8) (mtu : UInt16) (w : World) (h : ¬ 0 < os.length) (h4 : 4 ≤ xs.length) (hxl : xs.length ≤ 300) (hf : ¬ 0 < fo.toNat) (h6 : ((pr.toNat : Int) != 6) = true) (h17 : ((pr.toNat : Int) != 17) = false) (ho0 : Rd bv w w.heap.size a8 cap8 os) (hx0 : Rd bv w w.heap.size a9 cap9 xs)
    (HF : ∀ W, Hid (Calls Try.prog 4 #[.agg #[.int .u8 (tos.toNat : Int), .int .u16 (id.toNat : Int), .bool true, .bool false, .int .u16 (fo.toNat : Int), .int .u8 (ttl.toNat : Int), .int .u8 (pr.toNat : Int), .int .u32 (s.toNat : Int), .int .u32 (d.toNat : Int), .slice a8 len8 cap8, .slice a9 len9 cap9]] W fun e w' => e = .returned (.agg #[.int .u8 (tos.toNat : Int), .int .u16 (id.toNat : Int), .bool true, .bool false, .int .u16 (fo.toNat : Int), .int .u8 (ttl.toNat : Int), .int .u8 (pr.toNat : Int), .int .u32 (s.toNat : Int), .int .u32 (d.toNat : Int), .slice a8 os.length cap8, .slice a9 xs.length cap9]) ∧ Below W.heap.size W w')) :
    Calls Try.prog 3 #[.agg cs, .agg #[.int .u8 (tos.toNat : Int), .int .u16 (id.toNat : Int), .bool true, .bool false, .int .u16 (fo.toNat : Int), .int .u8 (ttl.toNat : Int), .int .u8 (pr.toNat : Int), .int .u32 (s.toNat : Int), .int .u32 (d.toNat : Int), .slice a8 len8 cap8, .slice a9 len9 cap9], .int .u16 (mtu.toNat : Int)] w fun e w' => e = .returned (.bool true) ∧ Below w.heap.size w w' := by
  have h4d : decide ((xs.length : Int) < 4) = false := by simp; omega
  have h4n : ¬ xs.length < 4 := by omega
  have hos := List.eq_nil_of_length_eq_zero (Nat.eq_zero_of_not_pos h)
  have hf0 : fo.toNat = 0 := by omega
  have hpr : pr.toNat = 6 ∨ pr.toNat = 17 := by simp at h17; omega
  obtain ⟨h8, hh⟩ : ∃ h : UInt8, h.toNat = 69 := ⟨69, rfl⟩
  obtain ⟨N, hN⟩ : ∃ N, onesN (ih h8 tos (20 + os.length + xs.length) id (wdN true false fo) ttl pr 0 s d os) = N := ⟨_, rfl⟩
  have hol : os.length = 0 := by omega
  have HP1 : ∀ W (g1 : Rd bv W W.heap.size a8 cap8 os) (g2 : Rd bv W W.heap.size a9 cap9 xs), Hid (Calls Try.prog 6 #[.agg #[.int .u8 (tos.toNat : Int), .int .u16 (id.toNat : Int), .bool true, .bool false, .int .u16 (fo.toNat : Int), .int .u8 (ttl.toNat : Int), .int .u8 (pr.toNat : Int), .int .u32 (s.toNat : Int), .int .u32 (d.toNat : Int), .slice a8 os.length cap8, .slice a9 xs.length cap9]] W fun e w' => ∃ L A c, e = .returned (.tuple #[.slice A L.length c, .int .i64 0]) ∧ Hid (L = ih h8 tos (20 + os.length + xs.length) id (wdN true false fo) ttl pr (65535 - N) s d os ++ xs) ∧ Rd bv w' w'.heap.size A c L ∧ Below W.heap.size W w') := fun W g1 g2 => Lib.hid (rpput_ok tos id true false fo ttl pr s d a8 a9 cap8 cap9 os xs W g1 g2 (by omega) (by omega) (by omega) (by omega) h8 (by omega) N hN)
  have HLN : ∀ L : List UInt8, L = ih h8 tos (20 + os.length + xs.length) id (wdN true false fo) ttl pr (65535 - N) s d os ++ xs → L.length = 20 + xs.length := fun L h => by rw [h, List.length_append, ih_len]; omega
  have HOK := fun (L : List UInt8) (hL : L = ih h8 tos (20 + os.length + xs.length) id (wdN true false fo) ttl pr (65535 - N) s d os ++ xs) => ipok_put h8 tos id true false fo ttl pr s d os xs [] L N (by omega) (by omega) (by omega) (by omega) (by omega) hN (by rw [hL, List.append_nil])
  obtain ⟨re, hre⟩ : ∃ a : UInt32, a.toNat = mtu.toNat := ⟨UInt32.ofNat mtu.toNat, by simp⟩
  have hmt := mtu.toNat_lt
  obtain ⟨P28, hP28⟩ : ∃ l, (ih h8 tos (20 + os.length + xs.length) id (wdN true false fo) ttl pr (65535 - N) s d os ++ xs).take 28 = l := ⟨_, rfl⟩
  obtain ⟨N2, hN2⟩ : ∃ N2, onesN ([3, 4, 0, 0] ++ (be32 re ++ P28)) = N2 := ⟨_, rfl⟩
  obtain ⟨BY, hBY⟩ : ∃ l, [3, 4, UInt8.ofNat ((65535 - N2) / 256), UInt8.ofNat ((65535 - N2) % 256)] ++ (be32 re ++ P28) = l := ⟨_, rfl⟩
  have hBL : BY.length = 8 + P28.length := by rw [← hBY]; simp [be32]; omega
  have hPL : P28.length ≤ 28 := by rw [← hP28]; simp; omega
  have HTB : ∀ L A c W, Hid (L = ih h8 tos (20 + os.length + xs.length) id (wdN true false fo) ttl pr (65535 - N) s d os ++ xs) → Rd bv W W.heap.size A c L → Hid (Calls Try.prog 7 #[.agg cs, .slice A L.length c, .int .i64 (mtu.toNat : Int)] W fun e w' => ∃ L3 A3 c3, e = .returned (.tuple #[.agg #[.int .u8 0, .int .u16 0, .bool true, .bool false, .int .u16 0, .int .u8 64, .int .u8 1, .int .u32 (c0.toNat : Int), .int .u32 (s.toNat : Int), .slice none 0 0, .slice A3 L3.length c3], .bool true]) ∧ Hid (L3 = BY) ∧ Rd bv w' w'.heap.size A3 c3 L3 ∧ Below W.heap.size W w') := by
    intro L A c W HL g
    have hL := HL.out
    have hl := HLN L hL
    have h := toobig_yes cs c0 h12 mtu.toNat (by omega) A c L W g (by omega) (HOK L hL) (by simp; omega) (by omega) re hre N2 (by rw [hL, hP28]; exact hN2)
    rw [hL, hP28, hBY] at h
    rw [hL]
    exact Lib.hid h
  obtain ⟨ty, t0⟩ : ∃ a : UInt8, a = 3 := ⟨_, rfl⟩
  obtain ⟨cc, t1⟩ : ∃ a : UInt8, a = 4 := ⟨_, rfl⟩
  have e0 : (ty.toNat : Int) = 3 := by rw [t0]; rfl
  have e1 : (cc.toNat : Int) = 4 := by rw [t1]; rfl
  have HIP : ∀ L A c W, Hid (L = BY) → Rd bv W W.heap.size A c L → Hid (Calls Try.prog 8 #[.slice A L.length c] W fun e w' => ∃ L4 A4 c4, e = .returned (.tuple #[.agg #[.int .u8 3, .int .u8 4, .int .u32 (mtu.toNat : Int), .slice A4 L4.length c4], .int .i64 0]) ∧ Hid (L4 = P28) ∧ Rd bv w' w'.heap.size A4 c4 L4 ∧ Below W.heap.size W w') := by
    intro L A c W HL g
    have hL := HL.out
    have h := iparse_put ty cc _ _ re P28 L A c W g (by rw [hL, ← hBY, t0, t1]) (by omega) (by rw [hL, ← hBY]; exact put_sum 3 4 _ N2 hN2)
    simp only [e0, e1, hre] at h
    exact Lib.hid h
  obtain ⟨ys, hys⟩ : ∃ ys, ys = xs.take 8 := ⟨_, rfl⟩
  have hyl : 4 ≤ ys.length := by rw [hys]; simp; omega
  obtain ⟨x0, x1, HQ⟩ : ∃ x0 x1 : Int, ∀ L A c W, Hid (L = P28) → Rd bv W W.heap.size A c L → Hid (Calls Try.prog 9 #[.agg #[.int .u8 3, .int .u8 4, .int .u32 (mtu.toNat : Int), .slice A L.length c]] W fun e w' => e = .returned (.tuple #[.agg #[.int .u32 (s.toNat : Int), .int .u32 (d.toNat : Int), .int .u16 x0, .int .u16 x1, .int .u8 (pr.toNat : Int)], .int .i64 0]) ∧ Below W.heap.size W w') := by
    refine ⟨((ys[0].toNat * 256 + ys[1].toNat : Nat) : Int), ((ys[2].toNat * 256 + ys[3].toNat : Nat) : Int), fun L A c W HL g => ?_⟩
    · have hL := HL.out
      subst hos
      have h := qof_put ty cc re (by rw [t0]; rfl) h8 tos _ id true false fo ttl pr N s d xs L ys (by omega) (by omega) hN (by rw [hL, ← hP28]) hys (s.toNat : Int) (d.toNat : Int) _ _ (pr.toNat : Int) 0 (fun v0 v1 v2 v5 v9 A c W g => fof_okP v0 v1 v2 v5 v9 _ _ _ A c ys (by simp; omega) W g hyl pr hpr) A c W g
      simp only [e0, e1, hre] at h
      exact Lib.hid h
  obtain ⟨z16, e16⟩ : ∃ a : UInt16, (a.toNat : Int) = 0 := ⟨0, rfl⟩
  obtain ⟨z8, ez8⟩ : ∃ a : UInt8, (a.toNat : Int) = 0 := ⟨0, rfl⟩
  obtain ⟨t64, e64⟩ : ∃ a : UInt8, (a.toNat : Int) = 64 := ⟨64, rfl⟩
  obtain ⟨p1, ep1⟩ : ∃ a : UInt8, (a.toNat : Int) = 1 := ⟨1, rfl⟩
  obtain ⟨N3, hN3⟩ : ∃ N3, onesN (ih h8 z8 (20 + ([] : List UInt8).length + BY.length) z16 (wdN true false z16) t64 p1 0 c0 s []) = N3 := ⟨_, rfl⟩
  have HPX : ∀ L A c W, Hid (L = BY) → Rd bv W W.heap.size A c L → Hid (Calls Try.prog 10 #[.agg #[.int .u8 0, .int .u16 0, .bool true, .bool false, .int .u16 0, .int .u8 64, .int .u8 1, .int .u32 (c0.toNat : Int), .int .u32 (s.toNat : Int), .slice none 0 0, .slice A L.length c]] W fun e w' => ∃ (L' : List UInt8) (A' : Option Addr) (c' : Nat), e = .returned (.tuple #[.slice A' L'.length c', .int .i64 0]) ∧ Hid (L'.length = 20 + BY.length) ∧ Below W.heap.size W w') := by
    intro L A c W HL g
    have hL := HL.out
    subst hL
    have h := pput_ok z8 z16 true false z16 t64 p1 c0 s none A 0 c [] L W (Rd.nil0 _ _ _) g (by simp) (by simp) (by omega) (by simp; omega) h8 (by simp; omega) N3 hN3
    simp only [e16, ez8, e64, ep1] at h
    refine Lib.hid (h.mono ?_)
    rintro e w' ⟨L', A', c', rfl, HL', -, hb⟩
    exact ⟨L', A', c', rfl, by rw [HL'.out, List.length_append, ih_len]; simp [Hid], hb⟩
  have HFW : ∀ L A c, Hid (L = ih h8 tos (20 + os.length + xs.length) id (wdN true false fo) ttl pr (65535 - N) s d os ++ xs) → (∃ B W0, Rd bv W0 B A c L) → ∃ n : Nat, n ≤ 28 ∧ (28 + BY.length : Nat) = 36 + n ∧ ∀ W, Hid (Calls Try.prog 11 #[.slice A L.length c, .int .i64 28] W fun e w' => e = .returned (.slice A n c) ∧ W = w') := by
    intro L A c HL ⟨B, W0, g⟩
    refine ⟨min L.length 28, by omega, by rw [hBL, ← hP28, ← HL.out]; simp; omega, fun W => Lib.hid ?_⟩
    have := few_le A L.length c 28 W g.len g.cap (by omega)
    exact this
  have wm : IntKind.i64.wrap (mtu.toNat : Int) = (mtu.toNat : Int) := by rw [IntKind.wrap_i64]; omega
  have wu : IntKind.u32.wrap (mtu.toNat : Int) = (mtu.toNat : Int) := by rw [IntKind.wrap_u32]; omega
  clear hN hh HLN HOK hos hpr hf0 hmt hol h12 t0 t1 e0 e1 e16 ez8 e64 ep1 hN2 hN3 hBY hP28 hre hys hyl hPL
  go_enter Try.func3, Try.ntmps3
  go_wp2_with fail
  refine (HF _).out.mono ?_
  rintro e w_1 ⟨rfl, hbel⟩
  have hB := bnext (bnextA (bnextA (Below.refl w.heap.size w) (.cells cs 33)) (.cells #[.int .u8 (tos.toNat : Int), .int .u16 (id.toNat : Int), .bool true, .bool false, .int .u16 (fo.toNat : Int), .int .u8 (ttl.toNat : Int), .int .u8 (pr.toNat : Int), .int .u32 (s.toNat : Int), .int .u32 (d.toNat : Int), .slice a8 len8 cap8, .slice a9 len9 cap9] 36)) hbel
  have KC := ((Blk.new w cs 33).alloc (.cells #[.int .u8 (tos.toNat : Int), .int .u16 (id.toNat : Int), .bool true, .bool false, .int .u16 (fo.toNat : Int), .int .u8 (ttl.toNat : Int), .int .u8 (pr.toNat : Int), .int .u32 (s.toNat : Int), .int .u32 (d.toNat : Int), .slice a8 len8 cap8, .slice a9 len9 cap9] 36)).next hbel
  have hK : Blk w_1 (w.heap.size + 1) [.int .u8 (tos.toNat : Int), .int .u16 (id.toNat : Int), .bool true, .bool false, .int .u16 (fo.toNat : Int), .int .u8 (ttl.toNat : Int), .int .u8 (pr.toNat : Int), .int .u32 (s.toNat : Int), .int .u32 (d.toNat : Int), .slice a8 len8 cap8, .slice a9 len9 cap9] 36 := by
    have := (Blk.new (w.alloc (.cells cs 33)) #[.int .u8 (tos.toNat : Int), .int .u16 (id.toNat : Int), .bool true, .bool false, .int .u16 (fo.toNat : Int), .int .u8 (ttl.toNat : Int), .int .u8 (pr.toNat : Int), .int .u32 (s.toNat : Int), .int .u32 (d.toNat : Int), .slice a8 len8 cap8, .slice a9 len9 cap9] 36).next hbel
    simpa using this
  obtain ⟨p0, p1, p2, p3, p4, p5, p6, p7, p8, p9, p10, g0, g1, g2, g3, g4, g5, g6, g7, g8, g9, g10⟩ := hK.get11
  clear hbel HF
  go_wp2_with fail
  have hBV := bset11 hB (Nat.le_succ _) (.int .u8 (tos.toNat : Int)) (.int .u16 (id.toNat : Int)) (.bool true) (.bool false) (.int .u16 (fo.toNat : Int)) (.int .u8 (ttl.toNat : Int)) (.int .u8 (pr.toNat : Int)) (.int .u32 (s.toNat : Int)) (.int .u32 (d.toNat : Int)) (.slice a8 os.length cap8) (.slice a9 xs.length cap9)
  have hKV := hK.set11 (u0 := .int .u8 (tos.toNat : Int)) (u1 := .int .u16 (id.toNat : Int)) (u2 := .bool true) (u3 := .bool false) (u4 := .int .u16 (fo.toNat : Int)) (u5 := .int .u8 (ttl.toNat : Int)) (u6 := .int .u8 (pr.toNat : Int)) (u7 := .int .u32 (s.toNat : Int)) (u8 := .int .u32 (d.toNat : Int)) (u9 := .slice a8 os.length cap8) (u10 := .slice a9 xs.length cap9)
  have KCV := KC.oth11 (g' := w.heap.size + 1) (by omega) (u0 := .int .u8 (tos.toNat : Int)) (u1 := .int .u16 (id.toNat : Int)) (u2 := .bool true) (u3 := .bool false) (u4 := .int .u16 (fo.toNat : Int)) (u5 := .int .u8 (ttl.toNat : Int)) (u6 := .int .u8 (pr.toNat : Int)) (u7 := .int .u32 (s.toNat : Int)) (u8 := .int .u32 (d.toNat : Int)) (u9 := .slice a8 os.length cap8) (u10 := .slice a9 xs.length cap9)
  simp only [setAll11] at hBV hKV KCV
  clear p0 p1 p2 p3 p4 p5 p6 p7 p8 p9 p10 g0 g1 g2 g3 g4 g5 g6 g7 g8 g9 g10 hB hK KC
  generalize (((((((((((w_1.setCell ⟨w.heap.size + 1, 0, none⟩ (.int .u8 (tos.toNat : Int))).setCell ⟨w.heap.size + 1, 1, none⟩ (.int .u16 (id.toNat : Int))).setCell ⟨w.heap.size + 1, 2, none⟩ (.bool true)).setCell ⟨w.heap.size + 1, 3, none⟩ (.bool false)).setCell ⟨w.heap.size + 1, 4, none⟩ (.int .u16 (fo.toNat : Int))).setCell ⟨w.heap.size + 1, 5, none⟩ (.int .u8 (ttl.toNat : Int))).setCell ⟨w.heap.size + 1, 6, none⟩ (.int .u8 (pr.toNat : Int))).setCell ⟨w.heap.size + 1, 7, none⟩ (.int .u32 (s.toNat : Int))).setCell ⟨w.heap.size + 1, 8, none⟩ (.int .u32 (d.toNat : Int))).setCell ⟨w.heap.size + 1, 9, none⟩ (.slice a8 os.length cap8)).setCell ⟨w.heap.size + 1, 10, none⟩ (.slice a9 xs.length cap9)) = V at hBV hKV KCV ⊢
  have hB := hBV
  have hK := hKV
  have KC := KCV
  clear hBV hKV KCV
  obtain ⟨p0, p1, p2, p3, p4, p5, p6, p7, p8, p9, p10, -⟩ := hK.get11
  have ho := ho0.next hB
  have hx := hx0.next hB
  clear ho0 hx0
  go_wp2_with fail
  refine (HP1 _ ho hx).out.mono ?_
  rintro e w_2 ⟨L, A, c, rfl, HL, r, hbel⟩
  replace hB := bnext hB hbel
  replace hK := hK.next hbel
  replace KC := KC.next hbel
  clear hbel HP1 ho hx p0 p1 p2 p3 p4 p5 p6 p7 p8 p9 p10
  go_wp2_with (with_reducible refine wpList_ldblk Try.underlying33 (by rw [hcz]; kernel_rfl) KC rfl ?_)
  refine (HTB _ _ _ _ HL r).out.mono ?_
  rintro e w_3 ⟨L3, A3, c3, rfl, HL3, r3, hbel⟩
  replace hB := bnextA (bnext hB hbel) (.cells #[.int .u8 0, .int .u16 0, .bool true, .bool false, .int .u16 0, .int .u8 64, .int .u8 1, .int .u32 (c0.toNat : Int), .int .u32 (s.toNat : Int), .slice none 0 0, .slice A3 L3.length c3] 36)
  replace hK := (hK.next hbel).alloc (.cells #[.int .u8 0, .int .u16 0, .bool true, .bool false, .int .u16 0, .int .u8 64, .int .u8 1, .int .u32 (c0.toNat : Int), .int .u32 (s.toNat : Int), .slice none 0 0, .slice A3 L3.length c3] 36)
  replace r := (r.next hbel).nextA (.cells #[.int .u8 0, .int .u16 0, .bool true, .bool false, .int .u16 0, .int .u8 64, .int .u8 1, .int .u32 (c0.toNat : Int), .int .u32 (s.toNat : Int), .slice none 0 0, .slice A3 L3.length c3] 36)
  replace r3 := r3.nextA (.cells #[.int .u8 0, .int .u16 0, .bool true, .bool false, .int .u16 0, .int .u8 64, .int .u8 1, .int .u32 (c0.toNat : Int), .int .u32 (s.toNat : Int), .slice none 0 0, .slice A3 L3.length c3] 36)
  have KX := Blk.new w_3 #[.int .u8 0, .int .u16 0, .bool true, .bool false, .int .u16 0, .int .u8 64, .int .u8 1, .int .u32 (c0.toNat : Int), .int .u32 (s.toNat : Int), .slice none 0 0, .slice A3 L3.length c3] 36
  clear hbel HTB KC
  obtain ⟨p0, p1, p2, p3, p4, p5, p6, p7, p8, p9, p10, -⟩ := hK.get11
  obtain ⟨t0, t1, t2, t3, t4, t5, t6, t7, t8, t9, t10, -⟩ := KX.get11
  go_wp2_with fail
  clear p0 p1 p2 p3 p4 p5 p6 p7 p8 p9 p10 t0 t1 t2 t3 t4 t5 t6 t7 t8 t9 t10
  generalize w_3.heap.size = GX at *
  generalize w_3.alloc (.cells #[.int .u8 0, .int .u16 0, .bool true, .bool false, .int .u16 0, .int .u8 64, .int .u8 1, .int .u32 (c0.toNat : Int), .int .u32 (s.toNat : Int), .slice none 0 0, .slice A3 L3.length c3] 36) = V3 at *
  refine (HIP _ _ _ _ HL3 r3).out.mono ?_
  rintro e w_4 ⟨L4, A4, c4, rfl, HL4, r4, hbel⟩
  replace hB := bnextA (bnext hB hbel) (.cells #[.int .u8 3, .int .u8 4, .int .u32 (mtu.toNat : Int), .slice A4 L4.length c4] 44)
  replace hK := (hK.next hbel).alloc (.cells #[.int .u8 3, .int .u8 4, .int .u32 (mtu.toNat : Int), .slice A4 L4.length c4] 44)
  replace KX := (KX.next hbel).alloc (.cells #[.int .u8 3, .int .u8 4, .int .u32 (mtu.toNat : Int), .slice A4 L4.length c4] 44)
  replace r := (r.next hbel).nextA (.cells #[.int .u8 3, .int .u8 4, .int .u32 (mtu.toNat : Int), .slice A4 L4.length c4] 44)
  replace r3 := (r3.next hbel).nextA (.cells #[.int .u8 3, .int .u8 4, .int .u32 (mtu.toNat : Int), .slice A4 L4.length c4] 44)
  replace r4 := r4.nextA (.cells #[.int .u8 3, .int .u8 4, .int .u32 (mtu.toNat : Int), .slice A4 L4.length c4] 44)
  have KM := Blk.new w_4 #[.int .u8 3, .int .u8 4, .int .u32 (mtu.toNat : Int), .slice A4 L4.length c4] 44
  clear hbel HIP
  obtain ⟨q0, q1, q2, q3, -⟩ := KM.get4
  go_wp2_with fail
  clear q0 q1 q2 q3
  generalize w_4.heap.size = GM at *
  generalize w_4.alloc (.cells #[.int .u8 3, .int .u8 4, .int .u32 (mtu.toNat : Int), .slice A4 L4.length c4] 44) = V4 at *
  refine (HQ _ _ _ _ HL4 r4).out.mono ?_
  rintro e w_5 ⟨rfl, hbel⟩
  replace hB := bnextA (bnext hB hbel) (.cells #[.int .u32 (s.toNat : Int), .int .u32 (d.toNat : Int), .int .u16 x0, .int .u16 x1, .int .u8 (pr.toNat : Int)] 49)
  replace hK := (hK.next hbel).alloc (.cells #[.int .u32 (s.toNat : Int), .int .u32 (d.toNat : Int), .int .u16 x0, .int .u16 x1, .int .u8 (pr.toNat : Int)] 49)
  replace KX := (KX.next hbel).alloc (.cells #[.int .u32 (s.toNat : Int), .int .u32 (d.toNat : Int), .int .u16 x0, .int .u16 x1, .int .u8 (pr.toNat : Int)] 49)
  replace KM := (KM.next hbel).alloc (.cells #[.int .u32 (s.toNat : Int), .int .u32 (d.toNat : Int), .int .u16 x0, .int .u16 x1, .int .u8 (pr.toNat : Int)] 49)
  replace r := (r.next hbel).nextA (.cells #[.int .u32 (s.toNat : Int), .int .u32 (d.toNat : Int), .int .u16 x0, .int .u16 x1, .int .u8 (pr.toNat : Int)] 49)
  replace r3 := (r3.next hbel).nextA (.cells #[.int .u32 (s.toNat : Int), .int .u32 (d.toNat : Int), .int .u16 x0, .int .u16 x1, .int .u8 (pr.toNat : Int)] 49)
  have KF := Blk.new w_5 #[.int .u32 (s.toNat : Int), .int .u32 (d.toNat : Int), .int .u16 x0, .int .u16 x1, .int .u8 (pr.toNat : Int)] 49
  clear hbel HQ r4 HL4
  obtain ⟨t0, t1, t2, t3, t4, t5, t6, t7, t8, t9, t10, -⟩ := KX.get11
  go_wp2_with fail
  clear t0 t1 t2 t3 t4 t5 t6 t7 t8 t9 t10
  generalize w_5.heap.size = GF at *
  generalize w_5.alloc (.cells #[.int .u32 (s.toNat : Int), .int .u32 (d.toNat : Int), .int .u16 x0, .int .u16 x1, .int .u8 (pr.toNat : Int)] 49) = V5 at *
  refine (HPX _ _ _ _ HL3 r3).out.mono ?_
  rintro e w_6 ⟨L6, A6, c6, rfl, HL6, hbel⟩
  replace hB := bnext hB hbel
  replace hK := hK.next hbel
  replace KX := KX.next hbel
  replace KM := KM.next hbel
  replace KF := KF.next hbel
  replace r := r.next hbel
  clear hbel HPX r3 HL3
  obtain ⟨n, hn28, hn, HFe⟩ := HFW _ _ _ HL ⟨_, _, r⟩
  have hl6 : (L6.length : Int) = 28 + (n : Int) := by rw [HL6.out]; omega
  have wl : IntKind.i64.wrap (28 + (n : Int)) = 28 + (n : Int) := by rw [IntKind.wrap_i64]; omega
  clear hn28
  obtain ⟨p0, p1, p2, p3, p4, p5, p6, p7, p8, p9, p10, -⟩ := hK.get11
  obtain ⟨t0, t1, t2, t3, t4, t5, t6, t7, t8, t9, t10, -⟩ := KX.get11
  obtain ⟨q0, q1, q2, q3, -⟩ := KM.get4
  obtain ⟨f0, f1, f2, f3, f4, -⟩ := fl_cells KF
  clear hK KX KM KF HFW HL6 hn r HL
  go_wp2_with fail
  refine (HFe _).out.mono ?_
  rintro e w_7 ⟨rfl, rfl⟩
  go_wp2_with fail
  clear p0 p1 p2 p3 p4 p5 p6 p7 p8 p9 p10 t0 t1 t2 t3 t4 t5 t6 t7 t8 t9 t10 q0 q1 q2 q3 f0 f1 f2 f3 f4
  refine (lives30_any _).mono ?_
  rintro e wl ⟨rfl, hbel⟩
  replace hB := bnext hB hbel
  go_wp2_with fail
  go_ret
  exact ⟨rfl, hB⟩

set_option maxHeartbeats 4000000 in
theorem ErrsTells_walk (a0_0_0_0 : Int) (a0_0_0_1 : Int) (a0_0_0_2 : Int) (a0_0_0_3 : Int) (a0_0_0_4 : Int) (a0_0_0_5 : Int) (a0_0_1_0 : Int) (a0_0_1_1 : Int) (a0_0_1_2 : Int) (a0_0_1_3 : Int) (a0_0_1_4 : Int) (a0_0_1_5 : Int) (a0_1_0 : Int) (a0_1_1 : Int) (a0_2_0 : Int) (a0_2_1 : Int) (a0_3 : Int) (a0_4 : Int) (a0_5_0 : Int) (a0_5_1 : Int) (a0_6_0 : Int) (a0_6_1 : Int) (a0_7 : Int) (a0_8 : Int) (a0_9 : Int) (a0_10 : Int) (a0_11 : Int) (a0_12 : Int) (a0_13 : Int) (a0_14 : Int) (a0_15 : Int) (a0_16 : Int) (a0_17 : Int) (a0_18 : Int) (a0_19 : Int) (a0_20 : Int) (a0_21 : Int) (a0_22 : Int) (a0_23 : Int) (a0_24 : Int) (a1_0 : Int) (a1_1 : Int) (a1_2 : Bool) (a1_3 : Bool) (a1_4 : Int) (a1_5 : Int) (a1_6 : Int) (a1_7 : Int) (a1_8 : Int) (a1_9 : Option Addr) (len1_9 cap1_9 : Nat) (z1_9 : List Int) (a1_10 : Option Addr) (len1_10 cap1_10 : Nat) (z1_10 : List Int) (a2 : Int) (w : World) (_w0_0_0_0 : (Lit.int .u8 a0_0_0_0).wf = true) (_w0_0_0_1 : (Lit.int .u8 a0_0_0_1).wf = true) (_w0_0_0_2 : (Lit.int .u8 a0_0_0_2).wf = true) (_w0_0_0_3 : (Lit.int .u8 a0_0_0_3).wf = true) (_w0_0_0_4 : (Lit.int .u8 a0_0_0_4).wf = true) (_w0_0_0_5 : (Lit.int .u8 a0_0_0_5).wf = true) (_w0_0_1_0 : (Lit.int .u8 a0_0_1_0).wf = true) (_w0_0_1_1 : (Lit.int .u8 a0_0_1_1).wf = true) (_w0_0_1_2 : (Lit.int .u8 a0_0_1_2).wf = true) (_w0_0_1_3 : (Lit.int .u8 a0_0_1_3).wf = true) (_w0_0_1_4 : (Lit.int .u8 a0_0_1_4).wf = true) (_w0_0_1_5 : (Lit.int .u8 a0_0_1_5).wf = true) (w0_1_0 : (Lit.int .u32 a0_1_0).wf = true) (_w0_1_1 : (Lit.int .u32 a0_1_1).wf = true) (_w0_2_0 : (Lit.int .i64 a0_2_0).wf = true) (_w0_2_1 : (Lit.int .i64 a0_2_1).wf = true) (_w0_3 : (Lit.int .u32 a0_3).wf = true) (_w0_4 : (Lit.int .i64 a0_4).wf = true) (_w0_5_0 : (Lit.int .u64 a0_5_0).wf = true) (_w0_5_1 : (Lit.int .u64 a0_5_1).wf = true) (_w0_6_0 : (Lit.int .u64 a0_6_0).wf = true) (_w0_6_1 : (Lit.int .u64 a0_6_1).wf = true) (_w0_7 : (Lit.int .u16 a0_7).wf = true) (_w0_8 : (Lit.int .i64 a0_8).wf = true) (_w0_9 : (Lit.int .i64 a0_9).wf = true) (_w0_10 : (Lit.int .i64 a0_10).wf = true) (_w0_11 : (Lit.int .i64 a0_11).wf = true) (_w0_12 : (Lit.int .i64 a0_12).wf = true) (_w0_13 : (Lit.int .i64 a0_13).wf = true) (_w0_14 : (Lit.int .i64 a0_14).wf = true) (_w0_15 : (Lit.int .i64 a0_15).wf = true) (_w0_16 : (Lit.int .i64 a0_16).wf = true) (_w0_17 : (Lit.int .i64 a0_17).wf = true) (_w0_18 : (Lit.int .i64 a0_18).wf = true) (_w0_19 : (Lit.int .i64 a0_19).wf = true) (_w0_20 : (Lit.int .i64 a0_20).wf = true) (_w0_21 : (Lit.int .i64 a0_21).wf = true) (_w0_22 : (Lit.int .i64 a0_22).wf = true) (_w0_23 : (Lit.int .i64 a0_23).wf = true) (_w0_24 : (Lit.int .i64 a0_24).wf = true) (w1_0 : (Lit.int .u8 a1_0).wf = true) (w1_1 : (Lit.int .u16 a1_1).wf = true) (w1_4 : (Lit.int .u16 a1_4).wf = true) (w1_5 : (Lit.int .u8 a1_5).wf = true) (w1_6 : (Lit.int .u8 a1_6).wf = true) (w1_7 : (Lit.int .u32 a1_7).wf = true) (w1_8 : (Lit.int .u32 a1_8).wf = true) (w1_9 : InRow .u8 w a1_9 len1_9 cap1_9 z1_9) (w1_10 : InRow .u8 w a1_10 len1_10 cap1_10 z1_10) (w2 : (Lit.int .u16 a2).wf = true) :
    Calls Try.prog 3 #[.agg #[.int .u8 a0_0_0_0, .int .u8 a0_0_0_1, .int .u8 a0_0_0_2, .int .u8 a0_0_0_3, .int .u8 a0_0_0_4, .int .u8 a0_0_0_5, .int .u8 a0_0_1_0, .int .u8 a0_0_1_1, .int .u8 a0_0_1_2, .int .u8 a0_0_1_3, .int .u8 a0_0_1_4, .int .u8 a0_0_1_5, .int .u32 a0_1_0, .int .u32 a0_1_1, .int .i64 a0_2_0, .int .i64 a0_2_1, .int .u32 a0_3, .int .i64 a0_4, .int .u64 a0_5_0, .int .u64 a0_5_1, .int .u64 a0_6_0, .int .u64 a0_6_1, .int .u16 a0_7, .int .i64 a0_8, .int .i64 a0_9, .int .i64 a0_10, .int .i64 a0_11, .int .i64 a0_12, .int .i64 a0_13, .int .i64 a0_14, .int .i64 a0_15, .int .i64 a0_16, .int .i64 a0_17, .int .i64 a0_18, .int .i64 a0_19, .int .i64 a0_20, .int .i64 a0_21, .int .i64 a0_22, .int .i64 a0_23, .int .i64 a0_24], .agg #[.int .u8 a1_0, .int .u16 a1_1, .bool a1_2, .bool a1_3, .int .u16 a1_4, .int .u8 a1_5, .int .u8 a1_6, .int .u32 a1_7, .int .u32 a1_8, .slice a1_9 len1_9 cap1_9, .slice a1_10 len1_10 cap1_10], .int .u16 a2] w fun e w' => e = .returned (.bool true) ∧ Below w.heap.size w w' := by
  obtain ⟨tos, rfl⟩ := u8_of w1_0
  obtain ⟨id, rfl⟩ := u16_of w1_1
  obtain ⟨fo, rfl⟩ := u16_of w1_4
  obtain ⟨ttl, rfl⟩ := u8_of w1_5
  obtain ⟨pr, rfl⟩ := u8_of w1_6
  obtain ⟨s, rfl⟩ := u32_of w1_7
  obtain ⟨d, rfl⟩ := u32_of w1_8
  obtain ⟨mtu, rfl⟩ := u16_of w2
  obtain ⟨c0, rfl⟩ := u32_of w0_1_0
  obtain ⟨os, hol, ho0, hlc, hcc, hm⟩ := few_len w1_9 50
  obtain ⟨xs, hxl, hx0, hlc2, hcc2, hm2⟩ := few_len w1_10 300
  have HF := fun W => Lib.hid (pfew_any tos id a1_2 a1_3 fo ttl pr s d a1_9 a1_10 len1_9 cap1_9 len1_10 cap1_10 os.length xs.length W hlc hcc hlc2 hcc2 hm hm2)
  obtain ⟨cs, hcv⟩ : ∃ cs : Array Value, cs = #[.int .u8 a0_0_0_0, .int .u8 a0_0_0_1, .int .u8 a0_0_0_2, .int .u8 a0_0_0_3, .int .u8 a0_0_0_4, .int .u8 a0_0_0_5, .int .u8 a0_0_1_0, .int .u8 a0_0_1_1, .int .u8 a0_0_1_2, .int .u8 a0_0_1_3, .int .u8 a0_0_1_4, .int .u8 a0_0_1_5, .int .u32 (c0.toNat : Int), .int .u32 a0_1_1, .int .i64 a0_2_0, .int .i64 a0_2_1, .int .u32 a0_3, .int .i64 a0_4, .int .u64 a0_5_0, .int .u64 a0_5_1, .int .u64 a0_6_0, .int .u64 a0_6_1, .int .u16 a0_7, .int .i64 a0_8, .int .i64 a0_9, .int .i64 a0_10, .int .i64 a0_11, .int .i64 a0_12, .int .i64 a0_13, .int .i64 a0_14, .int .i64 a0_15, .int .i64 a0_16, .int .i64 a0_17, .int .i64 a0_18, .int .i64 a0_19, .int .i64 a0_20, .int .i64 a0_21, .int .i64 a0_22, .int .i64 a0_23, .int .i64 a0_24] := ⟨_, rfl⟩
  have hcz : cs.size = 40 := by rw [hcv]; rfl
  have h12 : cs.toList[12]? = some (.int .u32 (c0.toNat : Int)) := by rw [hcv]; rfl
  rw [← hcv]
  clear hcv
  by_cases h : 0 < os.length
  · exact tells_a a1_2 a1_3 cs hcz c0 h12 tos id fo ttl pr s d a1_9 a1_10 len1_9 cap1_9 len1_10 cap1_10 os xs mtu w h HF
  by_cases h4 : xs.length < 4
  · exact tells_b a1_2 a1_3 cs hcz c0 h12 tos id fo ttl pr s d a1_9 a1_10 len1_9 cap1_9 len1_10 cap1_10 os xs mtu w h h4 HF
  have h4' : 4 ≤ xs.length := by omega
  cases a1_3
  · by_cases hf : 0 < fo.toNat
    · exact tells_d a1_2 cs hcz c0 h12 tos id fo ttl pr s d a1_9 a1_10 len1_9 cap1_9 len1_10 cap1_10 os xs mtu w h h4' hf HF
    by_cases p6 : pr.toNat = 6
    · cases a1_2
      · exact tells_no6 cs hcz c0 h12 tos id fo ttl pr s d a1_9 a1_10 len1_9 cap1_9 len1_10 cap1_10 os xs mtu w h h4' hxl hf (by simp; omega) ho0 hx0 HF
      · exact tells_yes6 cs hcz c0 h12 tos id fo ttl pr s d a1_9 a1_10 len1_9 cap1_9 len1_10 cap1_10 os xs mtu w h h4' hxl hf (by simp; omega) ho0 hx0 HF
    by_cases p17 : pr.toNat = 17
    · cases a1_2
      · exact tells_no17 cs hcz c0 h12 tos id fo ttl pr s d a1_9 a1_10 len1_9 cap1_9 len1_10 cap1_10 os xs mtu w h h4' hxl hf (by simp; omega) (by simp; omega) ho0 hx0 HF
      · exact tells_yes17 cs hcz c0 h12 tos id fo ttl pr s d a1_9 a1_10 len1_9 cap1_9 len1_10 cap1_10 os xs mtu w h h4' hxl hf (by simp; omega) (by simp; omega) ho0 hx0 HF
    · exact tells_e a1_2 cs hcz c0 h12 tos id fo ttl pr s d a1_9 a1_10 len1_9 cap1_9 len1_10 cap1_10 os xs mtu w h h4' hf (by simp; omega) (by simp; omega) HF
  · exact tells_c a1_2 cs hcz c0 h12 tos id fo ttl pr s d a1_9 a1_10 len1_9 cap1_9 len1_10 cap1_10 os xs mtu w h h4' HF
end Go.Proofs.Ytpibempfhgaomaa
