/- The walk of the statement on the bytes of a segment that is turned. -/
import Derived.Test.YtlceflfmdfoeiaaSpl7
import Derived.Test.YtlceflfmdfoeiaaTcp3
import Derived.Test.YtlceflfmdfoeiaaTcp6
namespace Go.Proofs.Ytlceflfmdfoeiaa
open Go.RowKit

set_option maxHeartbeats 4000000 in
set_option maxRecDepth 20000 in
theorem sbytes_no (s d : UInt32) (ts td : UInt32) (tp tp2 : UInt16) (tq tk : UInt32) (a b : UInt16) (q k : UInt32) (r f : UInt8) (z u : UInt16) (a8 a9 : Option Addr) (len8 cap8 len9 cap9 : Nat) (os xs : List UInt8) (w : World) (ho0 : Rd bv w w.heap.size a8 cap8 os) (hx0 : Rd bv w w.heap.size a9 cap9 xs) (er : Int) (he : ((er : Int) != 0) = true)
    (HF : ∀ W, Hid (Calls Try.prog 5 #[.agg #[.int .u16 (a.toNat : Int), .int .u16 (b.toNat : Int), .int .u32 (q.toNat : Int), .int .u32 (k.toNat : Int), .int .u8 (r.toNat : Int), .int .u8 (f.toNat : Int), .int .u16 (z.toNat : Int), .int .u16 (u.toNat : Int), .slice a8 len8 cap8, .slice a9 len9 cap9]] W fun e w' => e = .returned (.agg #[.int .u16 (a.toNat : Int), .int .u16 (b.toNat : Int), .int .u32 (q.toNat : Int), .int .u32 (k.toNat : Int), .int .u8 (r.toNat : Int), .int .u8 (f.toNat : Int), .int .u16 (z.toNat : Int), .int .u16 (u.toNat : Int), .slice a8 os.length cap8, .slice a9 xs.length cap9]) ∧ Below W.heap.size W w'))
    (HPB : ∀ W, Hid (Calls Try.prog 6 #[.int .u32 (s.toNat : Int), .int .u32 (d.toNat : Int), .agg #[.int .u16 (a.toNat : Int), .int .u16 (b.toNat : Int), .int .u32 (q.toNat : Int), .int .u32 (k.toNat : Int), .int .u8 (r.toNat : Int), .int .u8 (f.toNat : Int), .int .u16 (z.toNat : Int), .int .u16 (u.toNat : Int), .slice a8 os.length cap8, .slice a9 xs.length cap9]] W fun e w' => e = .returned (.tuple #[.slice none 0 0, .int .i64 er]) ∧ Below W.heap.size W w')) :
    Calls Try.prog 3 #[.int .u32 (s.toNat : Int), .int .u32 (d.toNat : Int), .agg #[.int .u16 (a.toNat : Int), .int .u16 (b.toNat : Int), .int .u32 (q.toNat : Int), .int .u32 (k.toNat : Int), .int .u8 (r.toNat : Int), .int .u8 (f.toNat : Int), .int .u16 (z.toNat : Int), .int .u16 (u.toNat : Int), .slice a8 len8 cap8, .slice a9 len9 cap9], .agg #[.int .u32 (ts.toNat : Int), .int .u32 (td.toNat : Int), .int .u16 (tp.toNat : Int), .int .u16 (tp2.toNat : Int), .int .u32 (tq.toNat : Int), .int .u32 (tk.toNat : Int)]] w fun e w' => e = .returned (.bool true) ∧ Below w.heap.size w w' := by
  go_enter Try.func3, Try.ntmps3
  go_wp2_with fail
  refine (HF _).out.mono ?_
  rintro e w_1 ⟨rfl, hbel⟩
  have hB := bnext (bnextA (bnextA (Below.refl w.heap.size w) (.cells #[.int .u16 (a.toNat : Int), .int .u16 (b.toNat : Int), .int .u32 (q.toNat : Int), .int .u32 (k.toNat : Int), .int .u8 (r.toNat : Int), .int .u8 (f.toNat : Int), .int .u16 (z.toNat : Int), .int .u16 (u.toNat : Int), .slice a8 len8 cap8, .slice a9 len9 cap9] 26)) (.cells #[.int .u32 (ts.toNat : Int), .int .u32 (td.toNat : Int), .int .u16 (tp.toNat : Int), .int .u16 (tp2.toNat : Int), .int .u32 (tq.toNat : Int), .int .u32 (tk.toNat : Int)] 28)) hbel
  have KS := ((Blk.new w #[.int .u16 (a.toNat : Int), .int .u16 (b.toNat : Int), .int .u32 (q.toNat : Int), .int .u32 (k.toNat : Int), .int .u8 (r.toNat : Int), .int .u8 (f.toNat : Int), .int .u16 (z.toNat : Int), .int .u16 (u.toNat : Int), .slice a8 len8 cap8, .slice a9 len9 cap9] 26).alloc (.cells #[.int .u32 (ts.toNat : Int), .int .u32 (td.toNat : Int), .int .u16 (tp.toNat : Int), .int .u16 (tp2.toNat : Int), .int .u32 (tq.toNat : Int), .int .u32 (tk.toNat : Int)] 28)).next hbel
  have KT : Blk w_1 (w.heap.size + 1) [.int .u32 (ts.toNat : Int), .int .u32 (td.toNat : Int), .int .u16 (tp.toNat : Int), .int .u16 (tp2.toNat : Int), .int .u32 (tq.toNat : Int), .int .u32 (tk.toNat : Int)] 28 := by
    have := (Blk.new (w.alloc (.cells #[.int .u16 (a.toNat : Int), .int .u16 (b.toNat : Int), .int .u32 (q.toNat : Int), .int .u32 (k.toNat : Int), .int .u8 (r.toNat : Int), .int .u8 (f.toNat : Int), .int .u16 (z.toNat : Int), .int .u16 (u.toNat : Int), .slice a8 len8 cap8, .slice a9 len9 cap9] 26)) #[.int .u32 (ts.toNat : Int), .int .u32 (td.toNat : Int), .int .u16 (tp.toNat : Int), .int .u16 (tp2.toNat : Int), .int .u32 (tq.toNat : Int), .int .u32 (tk.toNat : Int)] 28).next hbel
    simpa using this
  obtain ⟨p0, p1, p2, p3, p4, p5, p6, p7, p8, p9, g0, g1, g2, g3, g4, g5, g6, g7, g8, g9⟩ := KS.get10
  clear hbel HF
  go_wp2_with fail
  have hBV := bset10 hB (Nat.le_refl _) (.int .u16 (a.toNat : Int)) (.int .u16 (b.toNat : Int)) (.int .u32 (q.toNat : Int)) (.int .u32 (k.toNat : Int)) (.int .u8 (r.toNat : Int)) (.int .u8 (f.toNat : Int)) (.int .u16 (z.toNat : Int)) (.int .u16 (u.toNat : Int)) (.slice a8 os.length cap8) (.slice a9 xs.length cap9)
  have KSV := KS.set10 (u0 := .int .u16 (a.toNat : Int)) (u1 := .int .u16 (b.toNat : Int)) (u2 := .int .u32 (q.toNat : Int)) (u3 := .int .u32 (k.toNat : Int)) (u4 := .int .u8 (r.toNat : Int)) (u5 := .int .u8 (f.toNat : Int)) (u6 := .int .u16 (z.toNat : Int)) (u7 := .int .u16 (u.toNat : Int)) (u8 := .slice a8 os.length cap8) (u9 := .slice a9 xs.length cap9)
  have KTV := KT.oth10 (g' := w.heap.size) (by omega) (u0 := .int .u16 (a.toNat : Int)) (u1 := .int .u16 (b.toNat : Int)) (u2 := .int .u32 (q.toNat : Int)) (u3 := .int .u32 (k.toNat : Int)) (u4 := .int .u8 (r.toNat : Int)) (u5 := .int .u8 (f.toNat : Int)) (u6 := .int .u16 (z.toNat : Int)) (u7 := .int .u16 (u.toNat : Int)) (u8 := .slice a8 os.length cap8) (u9 := .slice a9 xs.length cap9)
  simp only [setAll10] at hBV KSV KTV
  clear p0 p1 p2 p3 p4 p5 p6 p7 p8 p9 g0 g1 g2 g3 g4 g5 g6 g7 g8 g9 hB KS KT
  generalize ((((((((((w_1.setCell ⟨w.heap.size, 0, none⟩ (.int .u16 (a.toNat : Int))).setCell ⟨w.heap.size, 1, none⟩ (.int .u16 (b.toNat : Int))).setCell ⟨w.heap.size, 2, none⟩ (.int .u32 (q.toNat : Int))).setCell ⟨w.heap.size, 3, none⟩ (.int .u32 (k.toNat : Int))).setCell ⟨w.heap.size, 4, none⟩ (.int .u8 (r.toNat : Int))).setCell ⟨w.heap.size, 5, none⟩ (.int .u8 (f.toNat : Int))).setCell ⟨w.heap.size, 6, none⟩ (.int .u16 (z.toNat : Int))).setCell ⟨w.heap.size, 7, none⟩ (.int .u16 (u.toNat : Int))).setCell ⟨w.heap.size, 8, none⟩ (.slice a8 os.length cap8)).setCell ⟨w.heap.size, 9, none⟩ (.slice a9 xs.length cap9)) = V at hBV KSV KTV ⊢
  have ho := ho0.next hBV
  have hx := hx0.next hBV
  have hB := hBV
  have KS := KSV
  have KT := KTV
  clear hBV KSV KTV ho0 hx0
  obtain ⟨p0, p1, p2, p3, p4, p5, p6, p7, p8, p9, -⟩ := KS.get10
  go_wp2_with fail
  refine (HPB _).out.mono ?_
  rintro e w_2 ⟨rfl, hbel⟩
  replace hB := bnext hB hbel
  clear hbel HPB ho hx p0 p1 p2 p3 p4 p5 p6 p7 p8 p9 KS KT
  go_wp2_with fail
  refine (lives28_any _).mono ?_
  rintro e wl ⟨rfl, hbel⟩
  replace hB := bnext hB hbel
  go_wp2_with fail
  go_ret
  exact ⟨rfl, hB⟩

set_option maxHeartbeats 8000000 in
set_option maxRecDepth 20000 in
theorem sbytes_yes (s d : UInt32) (ts td : UInt32) (tp tp2 : UInt16) (tq tk : UInt32) (a b : UInt16) (q k : UInt32) (r f : UInt8) (z u : UInt16) (a8 a9 : Option Addr) (len8 cap8 len9 cap9 : Nat) (os xs : List UInt8) (w : World) (ho0 : Rd bv w w.heap.size a8 cap8 os) (hx0 : Rd bv w w.heap.size a9 cap9 xs) (h : UInt8) (N N2 : Nat) (q2 k2 : UInt32)
    (HF : ∀ W, Hid (Calls Try.prog 5 #[.agg #[.int .u16 (a.toNat : Int), .int .u16 (b.toNat : Int), .int .u32 (q.toNat : Int), .int .u32 (k.toNat : Int), .int .u8 (r.toNat : Int), .int .u8 (f.toNat : Int), .int .u16 (z.toNat : Int), .int .u16 (u.toNat : Int), .slice a8 len8 cap8, .slice a9 len9 cap9]] W fun e w' => e = .returned (.agg #[.int .u16 (a.toNat : Int), .int .u16 (b.toNat : Int), .int .u32 (q.toNat : Int), .int .u32 (k.toNat : Int), .int .u8 (r.toNat : Int), .int .u8 (f.toNat : Int), .int .u16 (z.toNat : Int), .int .u16 (u.toNat : Int), .slice a8 os.length cap8, .slice a9 xs.length cap9]) ∧ Below W.heap.size W w'))
    (HP1 : ∀ W, Rd bv W W.heap.size a8 cap8 os → Rd bv W W.heap.size a9 cap9 xs → Hid (Calls Try.prog 6 #[.int .u32 (s.toNat : Int), .int .u32 (d.toNat : Int), .agg #[.int .u16 (a.toNat : Int), .int .u16 (b.toNat : Int), .int .u32 (q.toNat : Int), .int .u32 (k.toNat : Int), .int .u8 (r.toNat : Int), .int .u8 (f.toNat : Int), .int .u16 (z.toNat : Int), .int .u16 (u.toNat : Int), .slice a8 os.length cap8, .slice a9 xs.length cap9]] W fun e w' => ∃ L A c, e = .returned (.tuple #[.slice A L.length c, .int .i64 0]) ∧ Hid (L = tb a b q k h f z u (65535 - N) os xs) ∧ Rd bv w' w'.heap.size A c L ∧ Below W.heap.size W w'))
    (HB : ∀ L A c W, Hid (L = tb a b q k h f z u (65535 - N) os xs) → Rd bv W W.heap.size A c L → Hid (Calls Try.prog 8 #[.int .u32 (s.toNat : Int), .int .u32 (d.toNat : Int), .slice A L.length c, .agg #[.int .u32 (ts.toNat : Int), .int .u32 (td.toNat : Int), .int .u16 (tp.toNat : Int), .int .u16 (tp2.toNat : Int), .int .u32 (tq.toNat : Int), .int .u32 (tk.toNat : Int)]] W fun e w' => ∃ L2 A1 c1, e = .returned (.tuple #[.slice A1 L2.length c1, .int .i64 0]) ∧ Hid (L2 = tb tp tp2 q2 k2 h f z u (65535 - N2) os xs) ∧ Rd bv w' w'.heap.size A1 c1 L2 ∧ Below W.heap.size W w'))
    (HAP : ∀ W, Hid (Calls Try.prog 9 #[.int .u16 (tp.toNat : Int), .int .u16 (tp2.toNat : Int), .int .u32 (tq.toNat : Int), .int .u32 (tk.toNat : Int), .agg #[.int .u16 (a.toNat : Int), .int .u16 (b.toNat : Int), .int .u32 (q.toNat : Int), .int .u32 (k.toNat : Int), .int .u8 (r.toNat : Int), .int .u8 (f.toNat : Int), .int .u16 (z.toNat : Int), .int .u16 (u.toNat : Int), .slice a8 os.length cap8, .slice a9 xs.length cap9]] W fun e w' => e = .returned (.agg #[.int .u16 (tp.toNat : Int), .int .u16 (tp2.toNat : Int), .int .u32 (q2.toNat : Int), .int .u32 (k2.toNat : Int), .int .u8 (r.toNat : Int), .int .u8 (f.toNat : Int), .int .u16 (z.toNat : Int), .int .u16 (u.toNat : Int), .slice a8 os.length cap8, .slice a9 xs.length cap9]) ∧ Below W.heap.size W w'))
    (HP2 : ∀ W, Rd bv W W.heap.size a8 cap8 os → Rd bv W W.heap.size a9 cap9 xs → Hid (Calls Try.prog 6 #[.int .u32 (ts.toNat : Int), .int .u32 (td.toNat : Int), .agg #[.int .u16 (tp.toNat : Int), .int .u16 (tp2.toNat : Int), .int .u32 (q2.toNat : Int), .int .u32 (k2.toNat : Int), .int .u8 (r.toNat : Int), .int .u8 (f.toNat : Int), .int .u16 (z.toNat : Int), .int .u16 (u.toNat : Int), .slice a8 os.length cap8, .slice a9 xs.length cap9]] W fun e w' => ∃ L A c, e = .returned (.tuple #[.slice A L.length c, .int .i64 0]) ∧ Hid (L = tb tp tp2 q2 k2 h f z u (65535 - N2) os xs) ∧ Rd bv w' w'.heap.size A c L ∧ Below W.heap.size W w')) :
    Calls Try.prog 3 #[.int .u32 (s.toNat : Int), .int .u32 (d.toNat : Int), .agg #[.int .u16 (a.toNat : Int), .int .u16 (b.toNat : Int), .int .u32 (q.toNat : Int), .int .u32 (k.toNat : Int), .int .u8 (r.toNat : Int), .int .u8 (f.toNat : Int), .int .u16 (z.toNat : Int), .int .u16 (u.toNat : Int), .slice a8 len8 cap8, .slice a9 len9 cap9], .agg #[.int .u32 (ts.toNat : Int), .int .u32 (td.toNat : Int), .int .u16 (tp.toNat : Int), .int .u16 (tp2.toNat : Int), .int .u32 (tq.toNat : Int), .int .u32 (tk.toNat : Int)]] w fun e w' => e = .returned (.bool true) ∧ Below w.heap.size w w' := by
  go_enter Try.func3, Try.ntmps3
  go_wp2_with fail
  refine (HF _).out.mono ?_
  rintro e w_1 ⟨rfl, hbel⟩
  have hB := bnext (bnextA (bnextA (Below.refl w.heap.size w) (.cells #[.int .u16 (a.toNat : Int), .int .u16 (b.toNat : Int), .int .u32 (q.toNat : Int), .int .u32 (k.toNat : Int), .int .u8 (r.toNat : Int), .int .u8 (f.toNat : Int), .int .u16 (z.toNat : Int), .int .u16 (u.toNat : Int), .slice a8 len8 cap8, .slice a9 len9 cap9] 26)) (.cells #[.int .u32 (ts.toNat : Int), .int .u32 (td.toNat : Int), .int .u16 (tp.toNat : Int), .int .u16 (tp2.toNat : Int), .int .u32 (tq.toNat : Int), .int .u32 (tk.toNat : Int)] 28)) hbel
  have KS := ((Blk.new w #[.int .u16 (a.toNat : Int), .int .u16 (b.toNat : Int), .int .u32 (q.toNat : Int), .int .u32 (k.toNat : Int), .int .u8 (r.toNat : Int), .int .u8 (f.toNat : Int), .int .u16 (z.toNat : Int), .int .u16 (u.toNat : Int), .slice a8 len8 cap8, .slice a9 len9 cap9] 26).alloc (.cells #[.int .u32 (ts.toNat : Int), .int .u32 (td.toNat : Int), .int .u16 (tp.toNat : Int), .int .u16 (tp2.toNat : Int), .int .u32 (tq.toNat : Int), .int .u32 (tk.toNat : Int)] 28)).next hbel
  have KT : Blk w_1 (w.heap.size + 1) [.int .u32 (ts.toNat : Int), .int .u32 (td.toNat : Int), .int .u16 (tp.toNat : Int), .int .u16 (tp2.toNat : Int), .int .u32 (tq.toNat : Int), .int .u32 (tk.toNat : Int)] 28 := by
    have := (Blk.new (w.alloc (.cells #[.int .u16 (a.toNat : Int), .int .u16 (b.toNat : Int), .int .u32 (q.toNat : Int), .int .u32 (k.toNat : Int), .int .u8 (r.toNat : Int), .int .u8 (f.toNat : Int), .int .u16 (z.toNat : Int), .int .u16 (u.toNat : Int), .slice a8 len8 cap8, .slice a9 len9 cap9] 26)) #[.int .u32 (ts.toNat : Int), .int .u32 (td.toNat : Int), .int .u16 (tp.toNat : Int), .int .u16 (tp2.toNat : Int), .int .u32 (tq.toNat : Int), .int .u32 (tk.toNat : Int)] 28).next hbel
    simpa using this
  obtain ⟨p0, p1, p2, p3, p4, p5, p6, p7, p8, p9, g0, g1, g2, g3, g4, g5, g6, g7, g8, g9⟩ := KS.get10
  clear hbel HF
  go_wp2_with fail
  have hBV := bset10 hB (Nat.le_refl _) (.int .u16 (a.toNat : Int)) (.int .u16 (b.toNat : Int)) (.int .u32 (q.toNat : Int)) (.int .u32 (k.toNat : Int)) (.int .u8 (r.toNat : Int)) (.int .u8 (f.toNat : Int)) (.int .u16 (z.toNat : Int)) (.int .u16 (u.toNat : Int)) (.slice a8 os.length cap8) (.slice a9 xs.length cap9)
  have KSV := KS.set10 (u0 := .int .u16 (a.toNat : Int)) (u1 := .int .u16 (b.toNat : Int)) (u2 := .int .u32 (q.toNat : Int)) (u3 := .int .u32 (k.toNat : Int)) (u4 := .int .u8 (r.toNat : Int)) (u5 := .int .u8 (f.toNat : Int)) (u6 := .int .u16 (z.toNat : Int)) (u7 := .int .u16 (u.toNat : Int)) (u8 := .slice a8 os.length cap8) (u9 := .slice a9 xs.length cap9)
  have KTV := KT.oth10 (g' := w.heap.size) (by omega) (u0 := .int .u16 (a.toNat : Int)) (u1 := .int .u16 (b.toNat : Int)) (u2 := .int .u32 (q.toNat : Int)) (u3 := .int .u32 (k.toNat : Int)) (u4 := .int .u8 (r.toNat : Int)) (u5 := .int .u8 (f.toNat : Int)) (u6 := .int .u16 (z.toNat : Int)) (u7 := .int .u16 (u.toNat : Int)) (u8 := .slice a8 os.length cap8) (u9 := .slice a9 xs.length cap9)
  simp only [setAll10] at hBV KSV KTV
  clear p0 p1 p2 p3 p4 p5 p6 p7 p8 p9 g0 g1 g2 g3 g4 g5 g6 g7 g8 g9 hB KS KT
  generalize ((((((((((w_1.setCell ⟨w.heap.size, 0, none⟩ (.int .u16 (a.toNat : Int))).setCell ⟨w.heap.size, 1, none⟩ (.int .u16 (b.toNat : Int))).setCell ⟨w.heap.size, 2, none⟩ (.int .u32 (q.toNat : Int))).setCell ⟨w.heap.size, 3, none⟩ (.int .u32 (k.toNat : Int))).setCell ⟨w.heap.size, 4, none⟩ (.int .u8 (r.toNat : Int))).setCell ⟨w.heap.size, 5, none⟩ (.int .u8 (f.toNat : Int))).setCell ⟨w.heap.size, 6, none⟩ (.int .u16 (z.toNat : Int))).setCell ⟨w.heap.size, 7, none⟩ (.int .u16 (u.toNat : Int))).setCell ⟨w.heap.size, 8, none⟩ (.slice a8 os.length cap8)).setCell ⟨w.heap.size, 9, none⟩ (.slice a9 xs.length cap9)) = V at hBV KSV KTV ⊢
  have ho := ho0.next hBV
  have hx := hx0.next hBV
  have hB := hBV
  have KS := KSV
  have KT := KTV
  clear hBV KSV KTV ho0 hx0
  obtain ⟨p0, p1, p2, p3, p4, p5, p6, p7, p8, p9, -⟩ := KS.get10
  go_wp2_with fail
  refine (HP1 _ ho hx).out.mono ?_
  rintro e w_2 ⟨L, A, c, rfl, HL, r1, hbel⟩
  replace hB := bnext hB hbel
  replace ho := ho.next hbel
  replace hx := hx.next hbel
  replace KS := KS.next hbel
  replace KT := KT.next hbel
  clear hbel HP1 p0 p1 p2 p3 p4 p5 p6 p7 p8 p9
  obtain ⟨p0, p1, p2, p3, p4, p5, -⟩ := KT.get6
  go_wp2_with fail
  refine (HB _ _ _ _ HL r1).out.mono ?_
  rintro e V4 ⟨L2, A2, c2, rfl, HL2, r2, hbel⟩
  replace hB := bnext hB hbel
  replace ho := ho.next hbel
  replace hx := hx.next hbel
  replace KS := KS.next hbel
  replace KT := KT.next hbel
  clear hbel HB r1 HL p0 p1 p2 p3 p4 p5
  have HS : ∀ W, Below V4.heap.size V4 W → (W.cell? ⟨w.heap.size + 1, 0, none⟩ = some (.int .u32 (ts.toNat : Int)) ∧ W.cell? ⟨w.heap.size + 1, 1, none⟩ = some (.int .u32 (td.toNat : Int)) ∧ W.cell? ⟨w.heap.size + 1, 2, none⟩ = some (.int .u16 (tp.toNat : Int)) ∧ W.cell? ⟨w.heap.size + 1, 3, none⟩ = some (.int .u16 (tp2.toNat : Int)) ∧ W.cell? ⟨w.heap.size + 1, 4, none⟩ = some (.int .u32 (tq.toNat : Int)) ∧ W.cell? ⟨w.heap.size + 1, 5, none⟩ = some (.int .u32 (tk.toNat : Int))) := fun W h => ⟨(KT.next h).cell 0, (KT.next h).cell 1, (KT.next h).cell 2, (KT.next h).cell 3, (KT.next h).cell 4, (KT.next h).cell 5⟩
  go_wp2_with fail
  refine region_put (by kernel_rfl) (by kernel_rfl) (by kernel_rfl) 67 rfl (by kernel_rfl) V4 (fun i v W => match i with
      | 0 => v = .pointer (some ⟨w.heap.size + 1, 0, none⟩)
      | 1 => v = .int .u32 (ts.toNat : Int)
      | 2 => v = .pointer (some ⟨w.heap.size + 1, 1, none⟩)
      | 3 => v = .int .u32 (td.toNat : Int)
      | 4 => v = .pointer (some ⟨w.heap.size + 1, 2, none⟩)
      | 5 => v = .int .u16 (tp.toNat : Int)
      | 6 => v = .pointer (some ⟨w.heap.size + 1, 3, none⟩)
      | 7 => v = .int .u16 (tp2.toNat : Int)
      | 8 => v = .pointer (some ⟨w.heap.size + 1, 4, none⟩)
      | 9 => v = .int .u32 (tq.toNat : Int)
      | 10 => v = .pointer (some ⟨w.heap.size + 1, 5, none⟩)
      | 11 => v = .int .u32 (tk.toNat : Int)
      | 12 => v = .agg #[.int .u16 (a.toNat : Int), .int .u16 (b.toNat : Int), .int .u32 (q.toNat : Int), .int .u32 (k.toNat : Int), .int .u8 (r.toNat : Int), .int .u8 (f.toNat : Int), .int .u16 (z.toNat : Int), .int .u16 (u.toNat : Int), .slice a8 os.length cap8, .slice a9 xs.length cap9]
      | 13 => v = .agg #[.int .u16 (tp.toNat : Int), .int .u16 (tp2.toNat : Int), .int .u32 (q2.toNat : Int), .int .u32 (k2.toNat : Int), .int .u8 (r.toNat : Int), .int .u8 (f.toNat : Int), .int .u16 (z.toNat : Int), .int .u16 (u.toNat : Int), .slice a8 os.length cap8, .slice a9 xs.length cap9]
      | 14 => ∃ L A c, v = .tuple #[.slice A L.length c, .int .i64 0] ∧ Hid (L = tb tp tp2 q2 k2 h f z u (65535 - N2) os xs) ∧ Rd bv W W.heap.size A c L
      | 15 => ∃ L A c, v = .tuple #[.slice A L.length c, .int .i64 0] ∧ Hid (L = tb tp tp2 q2 k2 h f z u (65535 - N2) os xs) ∧ Rd bv W W.heap.size A c L
      | 16 => ∃ L A c, v = .slice A L.length c ∧ Hid (L = tb tp tp2 q2 k2 h f z u (65535 - N2) os xs) ∧ Rd bv W W.heap.size A c L
      | 17 => v = .int .i64 0
      | 18 => ∃ L A c, v = .slice A L.length c ∧ Hid (L = tb tp tp2 q2 k2 h f z u (65535 - N2) os xs) ∧ Rd bv W W.heap.size A c L
      | 19 => v = .int .i64 0
      | _ => True) (Below.refl _ _) ?_ ?_ ?_
  · intro i v W W' h hb
    match i, h with
    | 0, h => exact h
    | 1, h => exact h
    | 2, h => exact h
    | 3, h => exact h
    | 4, h => exact h
    | 5, h => exact h
    | 6, h => exact h
    | 7, h => exact h
    | 8, h => exact h
    | 9, h => exact h
    | 10, h => exact h
    | 11, h => exact h
    | 12, h => exact h
    | 13, h => exact h
    | 14, h => obtain ⟨L, A, c, h1, h2, h3⟩ := h; exact ⟨L, A, c, h1, h2, h3.next hb⟩
    | 15, h => obtain ⟨L, A, c, h1, h2, h3⟩ := h; exact ⟨L, A, c, h1, h2, h3.next hb⟩
    | 16, h => obtain ⟨L, A, c, h1, h2, h3⟩ := h; exact ⟨L, A, c, h1, h2, h3.next hb⟩
    | 17, h => exact h
    | 18, h => obtain ⟨L, A, c, h1, h2, h3⟩ := h; exact ⟨L, A, c, h1, h2, h3.next hb⟩
    | 19, h => exact h
    | _ + 20, _ => trivial
  · intro i o uu W hoo hVW hd
    rcases i with _|_|_|_|_|_|_|_|_|_|_|_|_|_|_|_|_|_|_|_|i
    · obtain rfl := Option.some.inj hoo
      refine .inl ⟨wanted_none rfl, ?_⟩
      generalize hev : Act.eval _ = ev
      have ec : ∀ c, ev (.const c) = c := fun c => by rw [← hev]; rfl
      have e7 : ev (.tmp 7) = .pointer (some ⟨w.heap.size + 1, 0, none⟩) := by rw [← hev]; exact eval_old (by kernel_rfl) 67 rfl (by decide) rfl
      clear hev hd
      exact .inl ⟨_, W, by go_simp, rfl, Below.refl _ _⟩
    · obtain rfl := Option.some.inj hoo
      have q0 : uu 0 = .pointer (some ⟨w.heap.size + 1, 0, none⟩) := hd 0 (by kernel_rfl)
      refine .inl ⟨wanted_none rfl, ?_⟩
      generalize hev : Act.eval _ = ev
      have ec : ∀ c, ev (.const c) = c := fun c => by rw [← hev]; rfl
      have e36 : ev (.tmp 36) = .pointer (some ⟨w.heap.size + 1, 0, none⟩) := by rw [← hev]; exact (eval_put (by kernel_rfl) 67 rfl (by decide)).trans q0
      clear hev hd q0
      obtain ⟨cc0, cc1, cc2, cc3, cc4, cc5⟩ := HS W hVW
      exact .inl ⟨_, W, by go_simp, rfl, Below.refl _ _⟩
    · obtain rfl := Option.some.inj hoo
      refine .inl ⟨wanted_none rfl, ?_⟩
      generalize hev : Act.eval _ = ev
      have ec : ∀ c, ev (.const c) = c := fun c => by rw [← hev]; rfl
      have e7 : ev (.tmp 7) = .pointer (some ⟨w.heap.size + 1, 0, none⟩) := by rw [← hev]; exact eval_old (by kernel_rfl) 67 rfl (by decide) rfl
      clear hev hd
      exact .inl ⟨_, W, by go_simp, rfl, Below.refl _ _⟩
    · obtain rfl := Option.some.inj hoo
      have q2 : uu 2 = .pointer (some ⟨w.heap.size + 1, 1, none⟩) := hd 2 (by kernel_rfl)
      refine .inl ⟨wanted_none rfl, ?_⟩
      generalize hev : Act.eval _ = ev
      have ec : ∀ c, ev (.const c) = c := fun c => by rw [← hev]; rfl
      have e38 : ev (.tmp 38) = .pointer (some ⟨w.heap.size + 1, 1, none⟩) := by rw [← hev]; exact (eval_put (by kernel_rfl) 67 rfl (by decide)).trans q2
      clear hev hd q2
      obtain ⟨cc0, cc1, cc2, cc3, cc4, cc5⟩ := HS W hVW
      exact .inl ⟨_, W, by go_simp, rfl, Below.refl _ _⟩
    · obtain rfl := Option.some.inj hoo
      refine .inl ⟨wanted_none rfl, ?_⟩
      generalize hev : Act.eval _ = ev
      have ec : ∀ c, ev (.const c) = c := fun c => by rw [← hev]; rfl
      have e7 : ev (.tmp 7) = .pointer (some ⟨w.heap.size + 1, 0, none⟩) := by rw [← hev]; exact eval_old (by kernel_rfl) 67 rfl (by decide) rfl
      clear hev hd
      exact .inl ⟨_, W, by go_simp, rfl, Below.refl _ _⟩
    · obtain rfl := Option.some.inj hoo
      have q4 : uu 4 = .pointer (some ⟨w.heap.size + 1, 2, none⟩) := hd 4 (by kernel_rfl)
      refine .inl ⟨wanted_none rfl, ?_⟩
      generalize hev : Act.eval _ = ev
      have ec : ∀ c, ev (.const c) = c := fun c => by rw [← hev]; rfl
      have e40 : ev (.tmp 40) = .pointer (some ⟨w.heap.size + 1, 2, none⟩) := by rw [← hev]; exact (eval_put (by kernel_rfl) 67 rfl (by decide)).trans q4
      clear hev hd q4
      obtain ⟨cc0, cc1, cc2, cc3, cc4, cc5⟩ := HS W hVW
      exact .inl ⟨_, W, by go_simp, rfl, Below.refl _ _⟩
    · obtain rfl := Option.some.inj hoo
      refine .inl ⟨wanted_none rfl, ?_⟩
      generalize hev : Act.eval _ = ev
      have ec : ∀ c, ev (.const c) = c := fun c => by rw [← hev]; rfl
      have e7 : ev (.tmp 7) = .pointer (some ⟨w.heap.size + 1, 0, none⟩) := by rw [← hev]; exact eval_old (by kernel_rfl) 67 rfl (by decide) rfl
      clear hev hd
      exact .inl ⟨_, W, by go_simp, rfl, Below.refl _ _⟩
    · obtain rfl := Option.some.inj hoo
      have q6 : uu 6 = .pointer (some ⟨w.heap.size + 1, 3, none⟩) := hd 6 (by kernel_rfl)
      refine .inl ⟨wanted_none rfl, ?_⟩
      generalize hev : Act.eval _ = ev
      have ec : ∀ c, ev (.const c) = c := fun c => by rw [← hev]; rfl
      have e42 : ev (.tmp 42) = .pointer (some ⟨w.heap.size + 1, 3, none⟩) := by rw [← hev]; exact (eval_put (by kernel_rfl) 67 rfl (by decide)).trans q6
      clear hev hd q6
      obtain ⟨cc0, cc1, cc2, cc3, cc4, cc5⟩ := HS W hVW
      exact .inl ⟨_, W, by go_simp, rfl, Below.refl _ _⟩
    · obtain rfl := Option.some.inj hoo
      refine .inl ⟨wanted_none rfl, ?_⟩
      generalize hev : Act.eval _ = ev
      have ec : ∀ c, ev (.const c) = c := fun c => by rw [← hev]; rfl
      have e7 : ev (.tmp 7) = .pointer (some ⟨w.heap.size + 1, 0, none⟩) := by rw [← hev]; exact eval_old (by kernel_rfl) 67 rfl (by decide) rfl
      clear hev hd
      exact .inl ⟨_, W, by go_simp, rfl, Below.refl _ _⟩
    · obtain rfl := Option.some.inj hoo
      have q8 : uu 8 = .pointer (some ⟨w.heap.size + 1, 4, none⟩) := hd 8 (by kernel_rfl)
      refine .inl ⟨wanted_none rfl, ?_⟩
      generalize hev : Act.eval _ = ev
      have ec : ∀ c, ev (.const c) = c := fun c => by rw [← hev]; rfl
      have e44 : ev (.tmp 44) = .pointer (some ⟨w.heap.size + 1, 4, none⟩) := by rw [← hev]; exact (eval_put (by kernel_rfl) 67 rfl (by decide)).trans q8
      clear hev hd q8
      obtain ⟨cc0, cc1, cc2, cc3, cc4, cc5⟩ := HS W hVW
      exact .inl ⟨_, W, by go_simp, rfl, Below.refl _ _⟩
    · obtain rfl := Option.some.inj hoo
      refine .inl ⟨wanted_none rfl, ?_⟩
      generalize hev : Act.eval _ = ev
      have ec : ∀ c, ev (.const c) = c := fun c => by rw [← hev]; rfl
      have e7 : ev (.tmp 7) = .pointer (some ⟨w.heap.size + 1, 0, none⟩) := by rw [← hev]; exact eval_old (by kernel_rfl) 67 rfl (by decide) rfl
      clear hev hd
      exact .inl ⟨_, W, by go_simp, rfl, Below.refl _ _⟩
    · obtain rfl := Option.some.inj hoo
      have q10 : uu 10 = .pointer (some ⟨w.heap.size + 1, 5, none⟩) := hd 10 (by kernel_rfl)
      refine .inl ⟨wanted_none rfl, ?_⟩
      generalize hev : Act.eval _ = ev
      have ec : ∀ c, ev (.const c) = c := fun c => by rw [← hev]; rfl
      have e46 : ev (.tmp 46) = .pointer (some ⟨w.heap.size + 1, 5, none⟩) := by rw [← hev]; exact (eval_put (by kernel_rfl) 67 rfl (by decide)).trans q10
      clear hev hd q10
      obtain ⟨cc0, cc1, cc2, cc3, cc4, cc5⟩ := HS W hVW
      exact .inl ⟨_, W, by go_simp, rfl, Below.refl _ _⟩
    · obtain rfl := Option.some.inj hoo
      refine .inl ⟨wanted_none rfl, ?_⟩
      generalize hev : Act.eval _ = ev
      have ec : ∀ c, ev (.const c) = c := fun c => by rw [← hev]; rfl
      have e6 : ev (.tmp 6) = .pointer (some ⟨w.heap.size, 0, none⟩) := by rw [← hev]; exact eval_old (by kernel_rfl) 67 rfl (by decide) rfl
      clear hev hd
      exact .inl ⟨_, W, load_blk Try.underlying26 (by kernel_rfl) (KS.next hVW) rfl e6, rfl, Below.refl _ _⟩
    · obtain rfl := Option.some.inj hoo
      have q5 : uu 5 = .int .u16 (tp.toNat : Int) := hd 5 (by kernel_rfl)
      have q7 : uu 7 = .int .u16 (tp2.toNat : Int) := hd 7 (by kernel_rfl)
      have q9 : uu 9 = .int .u32 (tq.toNat : Int) := hd 9 (by kernel_rfl)
      have q11 : uu 11 = .int .u32 (tk.toNat : Int) := hd 11 (by kernel_rfl)
      have q12 : uu 12 = .agg #[.int .u16 (a.toNat : Int), .int .u16 (b.toNat : Int), .int .u32 (q.toNat : Int), .int .u32 (k.toNat : Int), .int .u8 (r.toNat : Int), .int .u8 (f.toNat : Int), .int .u16 (z.toNat : Int), .int .u16 (u.toNat : Int), .slice a8 os.length cap8, .slice a9 xs.length cap9] := hd 12 (by kernel_rfl)
      refine .inl ⟨wanted_none rfl, ?_⟩
      generalize hev : Act.eval _ = ev
      have ec : ∀ c, ev (.const c) = c := fun c => by rw [← hev]; rfl
      have ef : ∀ f, ev (.func f) = .func (.func f) #[] #[] := fun f => by rw [← hev]; rfl
      have e41 : ev (.tmp 41) = .int .u16 (tp.toNat : Int) := by rw [← hev]; exact (eval_put (by kernel_rfl) 67 rfl (by decide)).trans q5
      have e43 : ev (.tmp 43) = .int .u16 (tp2.toNat : Int) := by rw [← hev]; exact (eval_put (by kernel_rfl) 67 rfl (by decide)).trans q7
      have e45 : ev (.tmp 45) = .int .u32 (tq.toNat : Int) := by rw [← hev]; exact (eval_put (by kernel_rfl) 67 rfl (by decide)).trans q9
      have e47 : ev (.tmp 47) = .int .u32 (tk.toNat : Int) := by rw [← hev]; exact (eval_put (by kernel_rfl) 67 rfl (by decide)).trans q11
      have e48 : ev (.tmp 48) = .agg #[.int .u16 (a.toNat : Int), .int .u16 (b.toNat : Int), .int .u32 (q.toNat : Int), .int .u32 (k.toNat : Int), .int .u8 (r.toNat : Int), .int .u8 (f.toNat : Int), .int .u16 (z.toNat : Int), .int .u16 (u.toNat : Int), .slice a8 os.length cap8, .slice a9 xs.length cap9] := by rw [← hev]; exact (eval_put (by kernel_rfl) 67 rfl (by decide)).trans q12
      clear hev hd q5 q7 q9 q11 q12
      exact .inr ⟨_, _, _, by go_simp, (HAP W).out, fun e w' he => ⟨_, he.1, rfl, he.2⟩⟩
    · obtain rfl := Option.some.inj hoo
      have q1 : uu 1 = .int .u32 (ts.toNat : Int) := hd 1 (by kernel_rfl)
      have q3 : uu 3 = .int .u32 (td.toNat : Int) := hd 3 (by kernel_rfl)
      have q13 : uu 13 = .agg #[.int .u16 (tp.toNat : Int), .int .u16 (tp2.toNat : Int), .int .u32 (q2.toNat : Int), .int .u32 (k2.toNat : Int), .int .u8 (r.toNat : Int), .int .u8 (f.toNat : Int), .int .u16 (z.toNat : Int), .int .u16 (u.toNat : Int), .slice a8 os.length cap8, .slice a9 xs.length cap9] := hd 13 (by kernel_rfl)
      refine .inl ⟨wanted_none rfl, ?_⟩
      generalize hev : Act.eval _ = ev
      have ec : ∀ c, ev (.const c) = c := fun c => by rw [← hev]; rfl
      have ef : ∀ f, ev (.func f) = .func (.func f) #[] #[] := fun f => by rw [← hev]; rfl
      have e37 : ev (.tmp 37) = .int .u32 (ts.toNat : Int) := by rw [← hev]; exact (eval_put (by kernel_rfl) 67 rfl (by decide)).trans q1
      have e39 : ev (.tmp 39) = .int .u32 (td.toNat : Int) := by rw [← hev]; exact (eval_put (by kernel_rfl) 67 rfl (by decide)).trans q3
      have e49 : ev (.tmp 49) = .agg #[.int .u16 (tp.toNat : Int), .int .u16 (tp2.toNat : Int), .int .u32 (q2.toNat : Int), .int .u32 (k2.toNat : Int), .int .u8 (r.toNat : Int), .int .u8 (f.toNat : Int), .int .u16 (z.toNat : Int), .int .u16 (u.toNat : Int), .slice a8 os.length cap8, .slice a9 xs.length cap9] := by rw [← hev]; exact (eval_put (by kernel_rfl) 67 rfl (by decide)).trans q13
      clear hev hd q1 q3 q13
      exact .inr ⟨_, _, _, by go_simp, (HP2 W (ho.next hVW) (hx.next hVW)).out, fun e w' he => by
        obtain ⟨L, A, c, rfl, HL, hr, hb⟩ := he
        exact ⟨_, rfl, ⟨L, A, c, rfl, HL, hr⟩, hb⟩⟩
    · obtain rfl := Option.some.inj hoo
      obtain ⟨L14, A14, c14, q14, HL14, r14⟩ := hd 14 (by kernel_rfl)
      refine .inl ⟨wanted_none rfl, ?_⟩
      generalize hev : Act.eval _ = ev
      have ec : ∀ c, ev (.const c) = c := fun c => by rw [← hev]; rfl
      have e50 : ev (.tmp 50) = .tuple #[.slice A14 L14.length c14, .int .i64 0] := by rw [← hev]; exact (eval_put (by kernel_rfl) 67 rfl (by decide)).trans q14
      clear hev hd q14
      exact .inl ⟨_, W, by go_simp, ⟨L14, A14, c14, rfl, HL14, r14⟩, Below.refl _ _⟩
    · obtain rfl := Option.some.inj hoo
      obtain ⟨L15, A15, c15, q15, HL15, r15⟩ := hd 15 (by kernel_rfl)
      refine .inl ⟨wanted_none rfl, ?_⟩
      generalize hev : Act.eval _ = ev
      have ec : ∀ c, ev (.const c) = c := fun c => by rw [← hev]; rfl
      have e35 : ev (.tmp 35) = .tuple #[.slice A15 L15.length c15, .int .i64 0] := by rw [← hev]; exact (eval_put (by kernel_rfl) 67 rfl (by decide)).trans q15
      clear hev hd q15
      exact .inl ⟨_, W, by go_simp, ⟨L15, A15, c15, rfl, HL15, r15⟩, Below.refl _ _⟩
    · obtain rfl := Option.some.inj hoo
      obtain ⟨L15, A15, c15, q15, HL15, r15⟩ := hd 15 (by kernel_rfl)
      refine .inl ⟨wanted_none rfl, ?_⟩
      generalize hev : Act.eval _ = ev
      have ec : ∀ c, ev (.const c) = c := fun c => by rw [← hev]; rfl
      have e35 : ev (.tmp 35) = .tuple #[.slice A15 L15.length c15, .int .i64 0] := by rw [← hev]; exact (eval_put (by kernel_rfl) 67 rfl (by decide)).trans q15
      clear hev hd q15
      exact .inl ⟨_, W, by go_simp, rfl, Below.refl _ _⟩
    · obtain rfl := Option.some.inj hoo
      obtain ⟨L16, A16, c16, q16, HL16, r16⟩ := hd 16 (by kernel_rfl)
      refine .inl ⟨wanted_none rfl, ?_⟩
      generalize hev : Act.eval _ = ev
      have ec : ∀ c, ev (.const c) = c := fun c => by rw [← hev]; rfl
      have e51 : ev (.tmp 51) = .slice A16 L16.length c16 := by rw [← hev]; exact (eval_put (by kernel_rfl) 67 rfl (by decide)).trans q16
      clear hev hd q16
      exact .inl ⟨_, W, by go_simp, ⟨L16, A16, c16, rfl, HL16, r16⟩, Below.refl _ _⟩
    · obtain rfl := Option.some.inj hoo
      have q17 : uu 17 = .int .i64 0 := hd 17 (by kernel_rfl)
      refine .inl ⟨wanted_none rfl, ?_⟩
      generalize hev : Act.eval _ = ev
      have ec : ∀ c, ev (.const c) = c := fun c => by rw [← hev]; rfl
      have e52 : ev (.tmp 52) = .int .i64 0 := by rw [← hev]; exact (eval_put (by kernel_rfl) 67 rfl (by decide)).trans q17
      clear hev hd q17
      exact .inl ⟨_, W, by go_simp, rfl, Below.refl _ _⟩
    · simp at hoo
  · intro uu W hVW hall
    have q18 : ∃ L A c, uu 18 = .slice A L.length c ∧ Hid (L = tb tp tp2 q2 k2 h f z u (65535 - N2) os xs) ∧ Rd bv W W.heap.size A c L := hall 18 (by decide)
    obtain ⟨L5, A5, c5, q18, HL5, r5⟩ := q18
    have q19 : uu 19 = .int .i64 0 := hall 19 (by decide)
    replace hB := hB.trans (hVW.mono hB.size)
    replace r2 := r2.next hVW
    clear hall HS HP2 HAP hVW ho hx KS KT
    simp only [putAll, Act.put, Nat.reduceAdd, q18, q19]
    simp only [List.setIfInBounds_toArray, List.set_cons_succ, List.set_cons_zero]
    clear q18 q19
    go_wp2_with fail
    refine (rsame_eq _ _ _ _ L2 L5 _ _ r2 r5 (by rw [HL2.out, HL5.out])).mono ?_
    rintro e w6 ⟨rfl, hd⟩
    replace hB := bnext hB hd.bel
    clear hd r2 r5
    go_wp2_with fail
    refine (lives28_any _).mono ?_
    rintro e wl ⟨rfl, hbel⟩
    replace hB := bnext hB hbel
    go_wp2_with fail
    go_ret
    exact ⟨rfl, hB⟩

set_option maxHeartbeats 4000000 in
theorem SpliceBytes_walk (a0 : Int) (a1 : Int) (a2_0 : Int) (a2_1 : Int) (a2_2 : Int) (a2_3 : Int) (a2_4 : Int) (a2_5 : Int) (a2_6 : Int) (a2_7 : Int) (a2_8 : Option Addr) (len2_8 cap2_8 : Nat) (z2_8 : List Int) (a2_9 : Option Addr) (len2_9 cap2_9 : Nat) (z2_9 : List Int) (a3_0 : Int) (a3_1 : Int) (a3_2 : Int) (a3_3 : Int) (a3_4 : Int) (a3_5 : Int) (w : World) (w0 : (Lit.int .u32 a0).wf = true) (w1 : (Lit.int .u32 a1).wf = true) (w2_0 : (Lit.int .u16 a2_0).wf = true) (w2_1 : (Lit.int .u16 a2_1).wf = true) (w2_2 : (Lit.int .u32 a2_2).wf = true) (w2_3 : (Lit.int .u32 a2_3).wf = true) (w2_4 : (Lit.int .u8 a2_4).wf = true) (w2_5 : (Lit.int .u8 a2_5).wf = true) (w2_6 : (Lit.int .u16 a2_6).wf = true) (w2_7 : (Lit.int .u16 a2_7).wf = true) (w2_8 : InRow .u8 w a2_8 len2_8 cap2_8 z2_8) (w2_9 : InRow .u8 w a2_9 len2_9 cap2_9 z2_9) (w3_0 : (Lit.int .u32 a3_0).wf = true) (w3_1 : (Lit.int .u32 a3_1).wf = true) (w3_2 : (Lit.int .u16 a3_2).wf = true) (w3_3 : (Lit.int .u16 a3_3).wf = true) (w3_4 : (Lit.int .u32 a3_4).wf = true) (w3_5 : (Lit.int .u32 a3_5).wf = true) :
    Calls Try.prog 3 #[.int .u32 a0, .int .u32 a1, .agg #[.int .u16 a2_0, .int .u16 a2_1, .int .u32 a2_2, .int .u32 a2_3, .int .u8 a2_4, .int .u8 a2_5, .int .u16 a2_6, .int .u16 a2_7, .slice a2_8 len2_8 cap2_8, .slice a2_9 len2_9 cap2_9], .agg #[.int .u32 a3_0, .int .u32 a3_1, .int .u16 a3_2, .int .u16 a3_3, .int .u32 a3_4, .int .u32 a3_5]] w fun e w' => e = .returned (.bool true) ∧ Below w.heap.size w w' := by
  obtain ⟨s, rfl⟩ := u32_of w0
  obtain ⟨d, rfl⟩ := u32_of w1
  obtain ⟨a, rfl⟩ := u16_of w2_0
  obtain ⟨b, rfl⟩ := u16_of w2_1
  obtain ⟨q, rfl⟩ := u32_of w2_2
  obtain ⟨k, rfl⟩ := u32_of w2_3
  obtain ⟨r, rfl⟩ := u8_of w2_4
  obtain ⟨f, rfl⟩ := u8_of w2_5
  obtain ⟨z, rfl⟩ := u16_of w2_6
  obtain ⟨u, rfl⟩ := u16_of w2_7
  obtain ⟨ts, rfl⟩ := u32_of w3_0
  obtain ⟨td, rfl⟩ := u32_of w3_1
  obtain ⟨tp, rfl⟩ := u16_of w3_2
  obtain ⟨tp2, rfl⟩ := u16_of w3_3
  obtain ⟨tq, rfl⟩ := u32_of w3_4
  obtain ⟨tk, rfl⟩ := u32_of w3_5
  obtain ⟨os, hol, ho0, hlc, hcc, hm⟩ := few_len w2_8 50
  obtain ⟨xs, hxl, hx0, hlc2, hcc2, hm2⟩ := few_len w2_9 200
  have HF := fun W => Lib.hid (tfew_any a b q k r f z u a2_8 a2_9 len2_8 cap2_8 len2_9 cap2_9 os.length xs.length W hlc hcc hlc2 hcc2 hm hm2)
  clear w0 w1 w2_0 w2_1 w2_2 w2_3 w2_4 w2_5 w2_6 w2_7 w2_8 w2_9 w3_0 w3_1 w3_2 w3_3 w3_4 w3_5 hlc hcc hm hlc2 hcc2 hm2
  by_cases h1 : r.toNat ≤ 15
  · by_cases h2 : os.length ≤ 40
    · by_cases h3 : os.length % 4 = 0
      · obtain ⟨h, hh⟩ : ∃ h : UInt8, h.toNat = (5 + os.length / 4) * 16 + r.toNat := ⟨UInt8.ofNat ((5 + os.length / 4) * 16 + r.toNat), by simp; omega⟩
        obtain ⟨N, hN⟩ : ∃ N, onesN (uh s d 6 (20 + os.length + xs.length) ++ tb a b q k h f z u 0 os xs) = N := ⟨_, rfl⟩
        have hN5 : N ≤ 65535 := by rw [← hN]; exact onesN_le _
        have fin : ∀ q2 k2 : UInt32, (∀ W Ao co Lo Ax cx Lx, Rd bv W W.heap.size Ao co Lo → Rd bv W W.heap.size Ax cx Lx → Hid (Lo.length ≤ 1000 ∧ Lx.length ≤ 100000) → Hid (Calls Try.prog 19 #[.agg #[.int .u32 (ts.toNat : Int), .int .u32 (td.toNat : Int), .int .u16 (tp.toNat : Int), .int .u16 (tp2.toNat : Int), .int .u32 (tq.toNat : Int), .int .u32 (tk.toNat : Int)], .agg #[.int .u16 (a.toNat : Int), .int .u16 (b.toNat : Int), .int .u32 (q.toNat : Int), .int .u32 (k.toNat : Int), .int .u8 (r.toNat : Int), .int .u8 (f.toNat : Int), .int .u16 (z.toNat : Int), .int .u16 (u.toNat : Int), .slice Ao Lo.length co, .slice Ax Lx.length cx]] W fun e w' => ∃ (M1 : List UInt8) (B1 : Option Addr) (d1 : Nat) (M2 : List UInt8) (B2 : Option Addr) (d2 : Nat), e = .returned (.agg #[.int .u16 (tp.toNat : Int), .int .u16 (tp2.toNat : Int), .int .u32 (q2.toNat : Int), .int .u32 (k2.toNat : Int), .int .u8 (r.toNat : Int), .int .u8 (f.toNat : Int), .int .u16 (z.toNat : Int), .int .u16 (u.toNat : Int), .slice B1 M1.length d1, .slice B2 M2.length d2]) ∧ Below W.heap.size W w')) → (∀ W, Hid (Calls Try.prog 9 #[.int .u16 (tp.toNat : Int), .int .u16 (tp2.toNat : Int), .int .u32 (tq.toNat : Int), .int .u32 (tk.toNat : Int), .agg #[.int .u16 (a.toNat : Int), .int .u16 (b.toNat : Int), .int .u32 (q.toNat : Int), .int .u32 (k.toNat : Int), .int .u8 (r.toNat : Int), .int .u8 (f.toNat : Int), .int .u16 (z.toNat : Int), .int .u16 (u.toNat : Int), .slice a2_8 os.length cap2_8, .slice a2_9 xs.length cap2_9]] W fun e w' => e = .returned (.agg #[.int .u16 (tp.toNat : Int), .int .u16 (tp2.toNat : Int), .int .u32 (q2.toNat : Int), .int .u32 (k2.toNat : Int), .int .u8 (r.toNat : Int), .int .u8 (f.toNat : Int), .int .u16 (z.toNat : Int), .int .u16 (u.toNat : Int), .slice a2_8 os.length cap2_8, .slice a2_9 xs.length cap2_9]) ∧ Below W.heap.size W w')) → Calls Try.prog 3 #[.int .u32 (s.toNat : Int), .int .u32 (d.toNat : Int), .agg #[.int .u16 (a.toNat : Int), .int .u16 (b.toNat : Int), .int .u32 (q.toNat : Int), .int .u32 (k.toNat : Int), .int .u8 (r.toNat : Int), .int .u8 (f.toNat : Int), .int .u16 (z.toNat : Int), .int .u16 (u.toNat : Int), .slice a2_8 len2_8 cap2_8, .slice a2_9 len2_9 cap2_9], .agg #[.int .u32 (ts.toNat : Int), .int .u32 (td.toNat : Int), .int .u16 (tp.toNat : Int), .int .u16 (tp2.toNat : Int), .int .u32 (tq.toNat : Int), .int .u32 (tk.toNat : Int)]] w fun e w' => e = .returned (.bool true) ∧ Below w.heap.size w w' := by
          intro q2 k2 HA HAP
          obtain ⟨N2, hN2⟩ : ∃ N2, onesN (uh ts td 6 (20 + os.length + xs.length) ++ tb tp tp2 q2 k2 h f z u 0 os xs) = N2 := ⟨_, rfl⟩
          have hN25 : N2 ≤ 65535 := by rw [← hN2]; exact onesN_le _
          refine sbytes_yes s d ts td tp tp2 tq tk a b q k r f z u a2_8 a2_9 len2_8 cap2_8 len2_9 cap2_9 os xs w ho0 hx0 h N N2 q2 k2 HF (fun W g1 g2 => Lib.hid (rtput_ok s d a b q k r f z u a2_8 a2_9 cap2_8 cap2_9 os xs W g1 g2 h1 h2 h3 (by omega) h hh N hN)) ?_ HAP (fun W g1 g2 => Lib.hid (rtput_ok ts td tp tp2 q2 k2 r f z u a2_8 a2_9 cap2_8 cap2_9 os xs W g1 g2 h1 h2 h3 (by omega) h hh N2 hN2))
          intro L A c W HL g
          have hL := HL.out
          have hlen : L.length = 20 + os.length + xs.length := by rw [hL, tb_len]
          have hx0 : beN ((L.drop 16).take 2) = (UInt16.ofNat (65535 - N)).toNat := by
            have e16 : ∀ x : UInt16, beN (be16 x) = x.toNat := fun x => by
              have := x.toNat_lt
              rw [be16, beN_two]; simp; omega
            rw [hL]; exact e16 _
          refine Lib.hid ((sbytes_sum s d ts td tp tp2 tq tk a b q k r f z u q2 k2 A c L W g _ hx0 (by omega) (by omega) ?_ HA).mono ?_)
          · intro W g
            refine Lib.hid ((tparse_put s d a b q k r f z u os xs L h N h1 hh h3 h2 (by omega) hN hL A c W g).mono ?_)
            rintro e w' ⟨Lo, Ao, co, Lx, Ax, cx, rfl, HLo, HLx, ro, rx, hb⟩
            exact ⟨Lo, Ao, co, Lx, Ax, cx, rfl, by rw [HLo.out, HLx.out]; simp only [Hid]; omega, ro, rx, hb⟩
          · rintro e w' ⟨L2, A1, c1, rfl, ⟨n, hn, hL2⟩, r2, hb⟩
            refine ⟨L2, A1, c1, rfl, ?_, r2, hb⟩
            rw [UInt16.ofNat_id _ (by omega), show 65535 - (65535 - N) = N by omega, ← hN, six_turns, hN2] at hn
            have hn' : n.toNat = 65535 - N2 := by have := n.toNat_lt; omega
            have hd : L.drop 12 = [h, f] ++ (be16 z ++ (be16 (UInt16.ofNat (65535 - N)) ++ (be16 u ++ (os ++ xs)))) := by rw [hL]; rfl
            show L2 = _
            rw [hL2, hd, hn', tb, be16_ofNat (65535 - N2) (by omega), be16_ofNat (65535 - N) (by omega)]
            simp [puts16, puts32, be16, be32]
        cases hF : hasB f 16
        · refine fin (q + tq) k ?_ (fun W => Lib.hid (rapply_0 tp tp2 tq tk a b q k r f z u (q + tq) k rfl rfl hF a2_8 a2_9 cap2_8 cap2_9 os xs W))
          intro W Ao co Lo Ax cx Lx g1 g2 hb
          refine Lib.hid ((apply_0 ts td tp tp2 tq tk a b q k r f z u (q + tq) k rfl rfl hF Ao Ax co cx Lo Lx W g1 g2 (by have := hb.out; omega) (by have := hb.out; omega)).mono ?_)
          rintro e w' ⟨M1, B1, d1, M2, B2, d2, rfl, -, -, -, -, hb⟩
          exact ⟨M1, B1, d1, M2, B2, d2, rfl, hb⟩
        · refine fin (q + tq) (k + tk) ?_ (fun W => Lib.hid (rapply_1 tp tp2 tq tk a b q k r f z u (q + tq) (k + tk) rfl rfl hF a2_8 a2_9 cap2_8 cap2_9 os xs W))
          intro W Ao co Lo Ax cx Lx g1 g2 hb
          refine Lib.hid ((apply_1 ts td tp tp2 tq tk a b q k r f z u (q + tq) (k + tk) rfl rfl hF Ao Ax co cx Lo Lx W g1 g2 (by have := hb.out; omega) (by have := hb.out; omega)).mono ?_)
          rintro e w' ⟨M1, B1, d1, M2, B2, d2, rfl, -, -, -, -, hb⟩
          exact ⟨M1, B1, d1, M2, B2, d2, rfl, hb⟩
      · exact sbytes_no s d ts td tp tp2 tq tk a b q k r f z u a2_8 a2_9 len2_8 cap2_8 len2_9 cap2_9 os xs w ho0 hx0 2 rfl HF (fun W => Lib.hid (rtput_bad2 s d a b q k r f z u a2_8 a2_9 os.length cap2_8 xs.length cap2_9 (by omega) (by omega) W h1 h2 h3))
    · exact sbytes_no s d ts td tp tp2 tq tk a b q k r f z u a2_8 a2_9 len2_8 cap2_8 len2_9 cap2_9 os xs w ho0 hx0 2 rfl HF (fun W => Lib.hid (rtput_bad1 s d a b q k r f z u a2_8 a2_9 os.length cap2_8 xs.length cap2_9 (by omega) (by omega) W h1 (by omega)))
  · exact sbytes_no s d ts td tp tp2 tq tk a b q k r f z u a2_8 a2_9 len2_8 cap2_8 len2_9 cap2_9 os xs w ho0 hx0 2 rfl HF (fun W => Lib.hid (rtput_bad0 s d a b q k r f z u a2_8 a2_9 os.length cap2_8 xs.length cap2_9 (by omega) (by omega) W (by omega)))
end Go.Proofs.Ytlceflfmdfoeiaa
