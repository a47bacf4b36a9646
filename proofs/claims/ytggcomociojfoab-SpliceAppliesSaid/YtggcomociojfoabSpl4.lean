/- The walk of SpliceApplies. -/
import Derived.Test.YtggcomociojfoabSpl3
import Derived.Test.YtggcomociojfoabReg5
namespace Go.Proofs.Ytggcomociojfoab
open Go.RowKit

set_option maxRecDepth 4000 in
set_option maxHeartbeats 8000000 in
theorem spl_applies (fs fd : UInt32) (fp fq pt : UInt16) (sh : UInt32) (e4 e5 e6 e7 e8 e9 e12 : Value) (cs : Array Value) (hcz : cs.size = 40) (c1 : UInt32) (hcs : cs.toList[13]? = some (.int .u32 (c1.toNat : Int))) (to : UInt32) (port : UInt16) (a b : UInt16) (q k : UInt32) (r f : UInt8) (z u : UInt16) (kt qh sq : UInt32) (a8 a9 : Option Addr) (len8 len9 cap8 cap9 : Nat) (os xs : List UInt8) (w : World) (H1 : Rd bv w w.heap.size a8 cap8 os) (H2 : Rd bv w w.heap.size a9 cap9 xs)
    (HF : ∀ W, Hid (Calls Try.prog 7 #[.agg #[.int .u16 (a.toNat : Int), .int .u16 (b.toNat : Int), .int .u32 (q.toNat : Int), .int .u32 (k.toNat : Int), .int .u8 (r.toNat : Int), .int .u8 (f.toNat : Int), .int .u16 (z.toNat : Int), .int .u16 (u.toNat : Int), .slice a8 len8 cap8, .slice a9 len9 cap9]] W fun e w' => e = .returned (.agg #[.int .u16 (a.toNat : Int), .int .u16 (b.toNat : Int), .int .u32 (q.toNat : Int), .int .u32 (k.toNat : Int), .int .u8 (r.toNat : Int), .int .u8 (f.toNat : Int), .int .u16 (z.toNat : Int), .int .u16 (u.toNat : Int), .slice a8 os.length cap8, .slice a9 xs.length cap9]) ∧ Below W.heap.size W w'))
    (HT : ∀ W, Hid (Calls Try.prog 8 #[.agg #[.int .u32 (fs.toNat : Int), .int .u32 (fd.toNat : Int), .int .u16 (fp.toNat : Int), .int .u16 (fq.toNat : Int), e4, e5, e6, e7, e8, e9, .int .u16 (pt.toNat : Int), .int .u32 (sh.toNat : Int), e12], .agg cs, .int .u32 (to.toNat : Int), .int .u16 (port.toNat : Int)] W fun e w' => e = .returned (.agg #[.int .u32 (c1.toNat : Int), .int .u32 (to.toNat : Int), .int .u16 (pt.toNat : Int), .int .u16 (port.toNat : Int), .int .u32 0, .int .u32 (sh.toNat : Int)]) ∧ Below W.heap.size W w'))
    (HH : ∀ W, Hid (Calls Try.prog 9 #[.agg #[.int .u32 (fs.toNat : Int), .int .u32 (fd.toNat : Int), .int .u16 (fp.toNat : Int), .int .u16 (fq.toNat : Int), e4, e5, e6, e7, e8, e9, .int .u16 (pt.toNat : Int), .int .u32 (sh.toNat : Int), e12]] W fun e w' => e = .returned (.agg #[.int .u32 (fd.toNat : Int), .int .u32 (fs.toNat : Int), .int .u16 (fq.toNat : Int), .int .u16 (fp.toNat : Int), .int .u32 (sq.toNat : Int), .int .u32 0]) ∧ Below W.heap.size W w'))
    (HOP : ∀ W, Hid (Calls Try.prog 10 #[.int .u32 (sh.toNat : Int)] W fun e w' => e = .returned (.int .u32 (sq.toNat : Int)) ∧ Below W.heap.size W w'))
    (HA1 : ∀ W, Rd bv W W.heap.size a8 cap8 os → Rd bv W W.heap.size a9 cap9 xs → Hid (Calls Try.prog 12 #[.agg #[.int .u32 (c1.toNat : Int), .int .u32 (to.toNat : Int), .int .u16 (pt.toNat : Int), .int .u16 (port.toNat : Int), .int .u32 0, .int .u32 (sh.toNat : Int)], .agg #[.int .u16 (a.toNat : Int), .int .u16 (b.toNat : Int), .int .u32 (q.toNat : Int), .int .u32 (k.toNat : Int), .int .u8 (r.toNat : Int), .int .u8 (f.toNat : Int), .int .u16 (z.toNat : Int), .int .u16 (u.toNat : Int), .slice a8 os.length cap8, .slice a9 xs.length cap9]] W fun e w' => ∃ L1 B1 d1 L2 B2 d2, e = .returned (.agg #[.int .u16 (pt.toNat : Int), .int .u16 (port.toNat : Int), .int .u32 (q.toNat : Int), .int .u32 (kt.toNat : Int), .int .u8 (r.toNat : Int), .int .u8 (f.toNat : Int), .int .u16 (z.toNat : Int), .int .u16 (u.toNat : Int), .slice B1 L1.length d1, .slice B2 L2.length d2]) ∧ Hid (L1 = os) ∧ Hid (L2 = xs) ∧ Rd bv w' w'.heap.size B1 d1 L1 ∧ Rd bv w' w'.heap.size B2 d2 L2 ∧ Below W.heap.size W w'))
    (HA2 : ∀ W, Rd bv W W.heap.size a8 cap8 os → Rd bv W W.heap.size a9 cap9 xs → Hid (Calls Try.prog 12 #[.agg #[.int .u32 (fd.toNat : Int), .int .u32 (fs.toNat : Int), .int .u16 (fq.toNat : Int), .int .u16 (fp.toNat : Int), .int .u32 (sq.toNat : Int), .int .u32 0], .agg #[.int .u16 (a.toNat : Int), .int .u16 (b.toNat : Int), .int .u32 (q.toNat : Int), .int .u32 (k.toNat : Int), .int .u8 (r.toNat : Int), .int .u8 (f.toNat : Int), .int .u16 (z.toNat : Int), .int .u16 (u.toNat : Int), .slice a8 os.length cap8, .slice a9 xs.length cap9]] W fun e w' => ∃ L1 B1 d1 L2 B2 d2, e = .returned (.agg #[.int .u16 (fq.toNat : Int), .int .u16 (fp.toNat : Int), .int .u32 (qh.toNat : Int), .int .u32 (k.toNat : Int), .int .u8 (r.toNat : Int), .int .u8 (f.toNat : Int), .int .u16 (z.toNat : Int), .int .u16 (u.toNat : Int), .slice B1 L1.length d1, .slice B2 L2.length d2]) ∧ Hid (L1 = os) ∧ Hid (L2 = xs) ∧ Rd bv w' w'.heap.size B1 d1 L1 ∧ Rd bv w' w'.heap.size B2 d2 L2 ∧ Below W.heap.size W w'))
    (HR1 : ∀ W, Hid (Calls Try.prog 13 #[.int .u16 (pt.toNat : Int), .int .u16 (port.toNat : Int), .int .u32 0, .int .u32 (sh.toNat : Int), .agg #[.int .u16 (a.toNat : Int), .int .u16 (b.toNat : Int), .int .u32 (q.toNat : Int), .int .u32 (k.toNat : Int), .int .u8 (r.toNat : Int), .int .u8 (f.toNat : Int), .int .u16 (z.toNat : Int), .int .u16 (u.toNat : Int), .slice a8 os.length cap8, .slice a9 xs.length cap9]] W fun e w' => e = .returned (.agg #[.int .u16 (pt.toNat : Int), .int .u16 (port.toNat : Int), .int .u32 (q.toNat : Int), .int .u32 (kt.toNat : Int), .int .u8 (r.toNat : Int), .int .u8 (f.toNat : Int), .int .u16 (z.toNat : Int), .int .u16 (u.toNat : Int), .slice a8 os.length cap8, .slice a9 xs.length cap9]) ∧ Below W.heap.size W w'))
    (HR2 : ∀ W, Hid (Calls Try.prog 13 #[.int .u16 (fq.toNat : Int), .int .u16 (fp.toNat : Int), .int .u32 (sq.toNat : Int), .int .u32 0, .agg #[.int .u16 (a.toNat : Int), .int .u16 (b.toNat : Int), .int .u32 (q.toNat : Int), .int .u32 (k.toNat : Int), .int .u8 (r.toNat : Int), .int .u8 (f.toNat : Int), .int .u16 (z.toNat : Int), .int .u16 (u.toNat : Int), .slice a8 os.length cap8, .slice a9 xs.length cap9]] W fun e w' => e = .returned (.agg #[.int .u16 (fq.toNat : Int), .int .u16 (fp.toNat : Int), .int .u32 (qh.toNat : Int), .int .u32 (k.toNat : Int), .int .u8 (r.toNat : Int), .int .u8 (f.toNat : Int), .int .u16 (z.toNat : Int), .int .u16 (u.toNat : Int), .slice a8 os.length cap8, .slice a9 xs.length cap9]) ∧ Below W.heap.size W w')) :
    Calls Try.prog 3 #[.agg #[.int .u32 (fs.toNat : Int), .int .u32 (fd.toNat : Int), .int .u16 (fp.toNat : Int), .int .u16 (fq.toNat : Int), e4, e5, e6, e7, e8, e9, .int .u16 (pt.toNat : Int), .int .u32 (sh.toNat : Int), e12], .agg cs, .int .u32 (to.toNat : Int), .int .u16 (port.toNat : Int), .agg #[.int .u16 (a.toNat : Int), .int .u16 (b.toNat : Int), .int .u32 (q.toNat : Int), .int .u32 (k.toNat : Int), .int .u8 (r.toNat : Int), .int .u8 (f.toNat : Int), .int .u16 (z.toNat : Int), .int .u16 (u.toNat : Int), .slice a8 len8 cap8, .slice a9 len9 cap9]] w fun e w' => e = .returned (.bool true) ∧ Below w.heap.size w w' := by
  go_enter Try.func3, Try.ntmps3
  go_wp2_with fail
  refine (HF _).out.mono ?_
  rintro e w_1 ⟨rfl, hbel⟩
  have hB := bnext (bnextA (bnextA (bnextA (Below.refl w.heap.size w) (.cells #[.int .u32 (fs.toNat : Int), .int .u32 (fd.toNat : Int), .int .u16 (fp.toNat : Int), .int .u16 (fq.toNat : Int), e4, e5, e6, e7, e8, e9, .int .u16 (pt.toNat : Int), .int .u32 (sh.toNat : Int), e12] 27)) (.cells cs 37)) (.cells #[.int .u16 (a.toNat : Int), .int .u16 (b.toNat : Int), .int .u32 (q.toNat : Int), .int .u32 (k.toNat : Int), .int .u8 (r.toNat : Int), .int .u8 (f.toNat : Int), .int .u16 (z.toNat : Int), .int .u16 (u.toNat : Int), .slice a8 len8 cap8, .slice a9 len9 cap9] 40)) hbel
  have KE := (((Blk.new w #[.int .u32 (fs.toNat : Int), .int .u32 (fd.toNat : Int), .int .u16 (fp.toNat : Int), .int .u16 (fq.toNat : Int), e4, e5, e6, e7, e8, e9, .int .u16 (pt.toNat : Int), .int .u32 (sh.toNat : Int), e12] 27).alloc (.cells cs 37)).alloc (.cells #[.int .u16 (a.toNat : Int), .int .u16 (b.toNat : Int), .int .u32 (q.toNat : Int), .int .u32 (k.toNat : Int), .int .u8 (r.toNat : Int), .int .u8 (f.toNat : Int), .int .u16 (z.toNat : Int), .int .u16 (u.toNat : Int), .slice a8 len8 cap8, .slice a9 len9 cap9] 40)).next hbel
  have KC : Blk w_1 (w.heap.size + 1) cs.toList 37 := by
    have := ((Blk.new (w.alloc (.cells #[.int .u32 (fs.toNat : Int), .int .u32 (fd.toNat : Int), .int .u16 (fp.toNat : Int), .int .u16 (fq.toNat : Int), e4, e5, e6, e7, e8, e9, .int .u16 (pt.toNat : Int), .int .u32 (sh.toNat : Int), e12] 27)) cs 37).alloc (.cells #[.int .u16 (a.toNat : Int), .int .u16 (b.toNat : Int), .int .u32 (q.toNat : Int), .int .u32 (k.toNat : Int), .int .u8 (r.toNat : Int), .int .u8 (f.toNat : Int), .int .u16 (z.toNat : Int), .int .u16 (u.toNat : Int), .slice a8 len8 cap8, .slice a9 len9 cap9] 40)).next hbel
    simpa using this
  have KS : Blk w_1 (w.heap.size + 2) [.int .u16 (a.toNat : Int), .int .u16 (b.toNat : Int), .int .u32 (q.toNat : Int), .int .u32 (k.toNat : Int), .int .u8 (r.toNat : Int), .int .u8 (f.toNat : Int), .int .u16 (z.toNat : Int), .int .u16 (u.toNat : Int), .slice a8 len8 cap8, .slice a9 len9 cap9] 40 := by
    have := (Blk.new ((w.alloc (.cells #[.int .u32 (fs.toNat : Int), .int .u32 (fd.toNat : Int), .int .u16 (fp.toNat : Int), .int .u16 (fq.toNat : Int), e4, e5, e6, e7, e8, e9, .int .u16 (pt.toNat : Int), .int .u32 (sh.toNat : Int), e12] 27)).alloc (.cells cs 37)) #[.int .u16 (a.toNat : Int), .int .u16 (b.toNat : Int), .int .u32 (q.toNat : Int), .int .u32 (k.toNat : Int), .int .u8 (r.toNat : Int), .int .u8 (f.toNat : Int), .int .u16 (z.toNat : Int), .int .u16 (u.toNat : Int), .slice a8 len8 cap8, .slice a9 len9 cap9] 40).next hbel
    simpa using this
  clear hbel HF
  obtain ⟨x0, x1, x2, x3, x4, x5, x6, x7, x8, x9, y0, y1, y2, y3, y4, y5, y6, y7, y8, y9⟩ := KS.get10
  have hle : w.heap.size ≤ w.heap.size + 2 := Nat.le_add_right _ _
  have hB1 := bset10 hB hle (.int .u16 (a.toNat : Int)) (.int .u16 (b.toNat : Int)) (.int .u32 (q.toNat : Int)) (.int .u32 (k.toNat : Int)) (.int .u8 (r.toNat : Int)) (.int .u8 (f.toNat : Int)) (.int .u16 (z.toNat : Int)) (.int .u16 (u.toNat : Int)) (.slice a8 os.length cap8) (.slice a9 xs.length cap9)
  have KS1 := KS.set10 (u0 := .int .u16 (a.toNat : Int)) (u1 := .int .u16 (b.toNat : Int)) (u2 := .int .u32 (q.toNat : Int)) (u3 := .int .u32 (k.toNat : Int)) (u4 := .int .u8 (r.toNat : Int)) (u5 := .int .u8 (f.toNat : Int)) (u6 := .int .u16 (z.toNat : Int)) (u7 := .int .u16 (u.toNat : Int)) (u8 := .slice a8 os.length cap8) (u9 := .slice a9 xs.length cap9)
  have KE1 := KE.oth10 (g' := w.heap.size + 2) (by omega) (u0 := .int .u16 (a.toNat : Int)) (u1 := .int .u16 (b.toNat : Int)) (u2 := .int .u32 (q.toNat : Int)) (u3 := .int .u32 (k.toNat : Int)) (u4 := .int .u8 (r.toNat : Int)) (u5 := .int .u8 (f.toNat : Int)) (u6 := .int .u16 (z.toNat : Int)) (u7 := .int .u16 (u.toNat : Int)) (u8 := .slice a8 os.length cap8) (u9 := .slice a9 xs.length cap9)
  have KC1 := KC.oth10 (g' := w.heap.size + 2) (by omega) (u0 := .int .u16 (a.toNat : Int)) (u1 := .int .u16 (b.toNat : Int)) (u2 := .int .u32 (q.toNat : Int)) (u3 := .int .u32 (k.toNat : Int)) (u4 := .int .u8 (r.toNat : Int)) (u5 := .int .u8 (f.toNat : Int)) (u6 := .int .u16 (z.toNat : Int)) (u7 := .int .u16 (u.toNat : Int)) (u8 := .slice a8 os.length cap8) (u9 := .slice a9 xs.length cap9)
  simp only [setAll10] at hB1 KS1 KE1 KC1
  clear hB KS KE KC
  go_wp2_with fail
  clear x0 x1 x2 x3 x4 x5 x6 x7 x8 x9 y0 y1 y2 y3 y4 y5 y6 y7 y8 y9
  have hB := hB1
  have KE := KE1
  have KC := KC1
  have KS := KS1
  clear hB1 KE1 KC1 KS1
  generalize ((((((((((w_1.setCell ⟨w.heap.size + 2, 0, none⟩ (.int .u16 (a.toNat : Int))).setCell ⟨w.heap.size + 2, 1, none⟩ (.int .u16 (b.toNat : Int))).setCell ⟨w.heap.size + 2, 2, none⟩ (.int .u32 (q.toNat : Int))).setCell ⟨w.heap.size + 2, 3, none⟩ (.int .u32 (k.toNat : Int))).setCell ⟨w.heap.size + 2, 4, none⟩ (.int .u8 (r.toNat : Int))).setCell ⟨w.heap.size + 2, 5, none⟩ (.int .u8 (f.toNat : Int))).setCell ⟨w.heap.size + 2, 6, none⟩ (.int .u16 (z.toNat : Int))).setCell ⟨w.heap.size + 2, 7, none⟩ (.int .u16 (u.toNat : Int))).setCell ⟨w.heap.size + 2, 8, none⟩ (.slice a8 os.length cap8)).setCell ⟨w.heap.size + 2, 9, none⟩ (.slice a9 xs.length cap9)) = V at *
  refine region_put_end2 (by kernel_rfl) (by kernel_rfl) (by kernel_rfl) 83 rfl (by kernel_rfl) V (fun i v W => match i with
      | 0 => v = .agg #[.int .u32 (fs.toNat : Int), .int .u32 (fd.toNat : Int), .int .u16 (fp.toNat : Int), .int .u16 (fq.toNat : Int), e4, e5, e6, e7, e8, e9, .int .u16 (pt.toNat : Int), .int .u32 (sh.toNat : Int), e12]
      | 1 => v = .agg cs
      | 2 => v = .int .u32 (to.toNat : Int)
      | 3 => v = .int .u16 (port.toNat : Int)
      | 4 => v = .agg #[.int .u32 (c1.toNat : Int), .int .u32 (to.toNat : Int), .int .u16 (pt.toNat : Int), .int .u16 (port.toNat : Int), .int .u32 0, .int .u32 (sh.toNat : Int)]
      | 5 => v = .agg #[.int .u32 (fs.toNat : Int), .int .u32 (fd.toNat : Int), .int .u16 (fp.toNat : Int), .int .u16 (fq.toNat : Int), e4, e5, e6, e7, e8, e9, .int .u16 (pt.toNat : Int), .int .u32 (sh.toNat : Int), e12]
      | 6 => v = .agg #[.int .u32 (fd.toNat : Int), .int .u32 (fs.toNat : Int), .int .u16 (fq.toNat : Int), .int .u16 (fp.toNat : Int), .int .u32 (sq.toNat : Int), .int .u32 0]
      | 7 => ∃ g, v = .pointer (some ⟨g, 0, none⟩) ∧ V.heap.size ≤ g ∧ Blk W g [.int .u32 0, .int .u32 0, .int .u16 0, .int .u16 0, .int .u32 0, .int .u32 0] 43
      | 8 => ∃ g, v = .pointer (some ⟨g, 0, none⟩) ∧ V.heap.size ≤ g ∧ Blk W g [.int .u32 0, .int .u32 0, .int .u16 0, .int .u16 0, .int .u32 0, .int .u32 0] 43
      | _ => True) (Below.refl _ _) 9 rfl (by kernel_rfl) (by kernel_rfl) (by intro o h; obtain rfl := Option.some.inj h; rfl) (by intro o h; obtain rfl := Option.some.inj h; rfl) (fun uu W => ∃ g7 g8, uu 6 = .agg #[.int .u32 (fd.toNat : Int), .int .u32 (fs.toNat : Int), .int .u16 (fq.toNat : Int), .int .u16 (fp.toNat : Int), .int .u32 (sq.toNat : Int), .int .u32 0] ∧ uu 7 = .pointer (some ⟨g7, 0, none⟩) ∧ uu 8 = .pointer (some ⟨g8, 0, none⟩) ∧ V.heap.size ≤ g7 ∧ V.heap.size ≤ g8 ∧ g7 ≠ g8 ∧ Blk W g7 [.int .u32 (c1.toNat : Int), .int .u32 (to.toNat : Int), .int .u16 (pt.toNat : Int), .int .u16 (port.toNat : Int), .int .u32 0, .int .u32 (sh.toNat : Int)] 43 ∧ Blk W g8 [.int .u32 0, .int .u32 0, .int .u16 0, .int .u16 0, .int .u32 0, .int .u32 0] 43 ∧ Below V.heap.size V W) (fun i => i == 7 || i == 8) ?_ ?_ ?_ ?_ ?_ ?_
  · intro i oo uu W _ ha hoo
    simp only [Bool.or_eq_true, beq_iff_eq] at ha
    rcases ha with rfl | rfl
    · obtain rfl := Option.some.inj hoo
      exact ⟨_, by go_simp; rfl⟩
    · obtain rfl := Option.some.inj hoo
      exact ⟨_, by go_simp; rfl⟩
  · intro i v W ha h
    simp only [Bool.or_eq_true, beq_iff_eq] at ha
    rcases ha with rfl | rfl <;> (obtain ⟨g, h1, -, h3⟩ := h; exact ⟨g, h1, h3.lt⟩)
  · intro i v W W' h hb
    match i, h with
    | 0, h => exact h
    | 1, h => exact h
    | 2, h => exact h
    | 3, h => exact h
    | 4, h => exact h
    | 5, h => exact h
    | 6, h => exact h
    | 7, h => obtain ⟨g, h1, h2, h3⟩ := h; exact ⟨g, h1, h2, h3.next hb⟩
    | 8, h => obtain ⟨g, h1, h2, h3⟩ := h; exact ⟨g, h1, h2, h3.next hb⟩
    | _ + 9, _ => trivial
  · intro i oo uu W him hoo hVW hd
    rcases i with _|_|_|_|_|_|_|_|_|i
    · obtain rfl := Option.some.inj hoo
      refine .inl ⟨wanted_none rfl, ?_⟩
      generalize hev : Act.eval _ = ev
      have ec : ∀ c, ev (.const c) = c := fun c => by rw [← hev]; rfl
      have e5 : ev (.tmp 5) = .pointer (some ⟨w.heap.size, 0, none⟩) := by rw [← hev]; exact eval_old (by kernel_rfl) 83 rfl (by decide) rfl
      clear hev hd
      exact .inl ⟨_, W, load_blk Try.underlying27 (by kernel_rfl) (KE.next hVW) rfl e5, rfl, Below.refl _ _⟩
    · obtain rfl := Option.some.inj hoo
      refine .inl ⟨wanted_none rfl, ?_⟩
      generalize hev : Act.eval _ = ev
      have ec : ∀ c, ev (.const c) = c := fun c => by rw [← hev]; rfl
      have e6 : ev (.tmp 6) = .pointer (some ⟨w.heap.size + 1, 0, none⟩) := by rw [← hev]; exact eval_old (by kernel_rfl) 83 rfl (by decide) rfl
      clear hev hd
      exact .inl ⟨_, W, load_blk Try.underlying37 (by rw [hcz]; kernel_rfl) (KC.next hVW) rfl e6, rfl, Below.refl _ _⟩
    · obtain rfl := Option.some.inj hoo
      refine .inl ⟨wanted_none rfl, ?_⟩
      generalize hev : Act.eval _ = ev
      have ec : ∀ c, ev (.const c) = c := fun c => by rw [← hev]; rfl
      have e2 : ev (.tmp 2) = .int .u32 (to.toNat : Int) := by rw [← hev]; exact eval_old (by kernel_rfl) 83 rfl (by decide) rfl
      clear hev hd
      exact .inl ⟨_, W, by go_simp, rfl, Below.refl _ _⟩
    · obtain rfl := Option.some.inj hoo
      refine .inl ⟨wanted_none rfl, ?_⟩
      generalize hev : Act.eval _ = ev
      have ec : ∀ c, ev (.const c) = c := fun c => by rw [← hev]; rfl
      have e3 : ev (.tmp 3) = .int .u16 (port.toNat : Int) := by rw [← hev]; exact eval_old (by kernel_rfl) 83 rfl (by decide) rfl
      clear hev hd
      exact .inl ⟨_, W, by go_simp, rfl, Below.refl _ _⟩
    · obtain rfl := Option.some.inj hoo
      have q0 : uu 0 = .agg #[.int .u32 (fs.toNat : Int), .int .u32 (fd.toNat : Int), .int .u16 (fp.toNat : Int), .int .u16 (fq.toNat : Int), e4, e5, e6, e7, e8, e9, .int .u16 (pt.toNat : Int), .int .u32 (sh.toNat : Int), e12] := hd 0 (by kernel_rfl)
      have q1 : uu 1 = .agg cs := hd 1 (by kernel_rfl)
      have q2 : uu 2 = .int .u32 (to.toNat : Int) := hd 2 (by kernel_rfl)
      have q3 : uu 3 = .int .u16 (port.toNat : Int) := hd 3 (by kernel_rfl)
      refine .inl ⟨wanted_none rfl, ?_⟩
      generalize hev : Act.eval _ = ev
      have ec : ∀ c, ev (.const c) = c := fun c => by rw [← hev]; rfl
      have ef : ∀ f, ev (.func f) = .func (.func f) #[] #[] := fun f => by rw [← hev]; rfl
      have e15 : ev (.tmp 15) = .agg #[.int .u32 (fs.toNat : Int), .int .u32 (fd.toNat : Int), .int .u16 (fp.toNat : Int), .int .u16 (fq.toNat : Int), e4, e5, e6, e7, e8, e9, .int .u16 (pt.toNat : Int), .int .u32 (sh.toNat : Int), e12] := by rw [← hev]; exact (eval_put (by kernel_rfl) 83 rfl (by decide)).trans q0
      have e16 : ev (.tmp 16) = .agg cs := by rw [← hev]; exact (eval_put (by kernel_rfl) 83 rfl (by decide)).trans q1
      have e17 : ev (.tmp 17) = .int .u32 (to.toNat : Int) := by rw [← hev]; exact (eval_put (by kernel_rfl) 83 rfl (by decide)).trans q2
      have e18 : ev (.tmp 18) = .int .u16 (port.toNat : Int) := by rw [← hev]; exact (eval_put (by kernel_rfl) 83 rfl (by decide)).trans q3
      clear hev hd q0 q1 q2 q3
      exact .inr ⟨_, _, _, by go_simp, (HT W).out, fun e w' he => ⟨_, he.1, rfl, he.2⟩⟩
    · obtain rfl := Option.some.inj hoo
      refine .inl ⟨wanted_none rfl, ?_⟩
      generalize hev : Act.eval _ = ev
      have ec : ∀ c, ev (.const c) = c := fun c => by rw [← hev]; rfl
      have e5 : ev (.tmp 5) = .pointer (some ⟨w.heap.size, 0, none⟩) := by rw [← hev]; exact eval_old (by kernel_rfl) 83 rfl (by decide) rfl
      clear hev hd
      exact .inl ⟨_, W, load_blk Try.underlying27 (by kernel_rfl) (KE.next hVW) rfl e5, rfl, Below.refl _ _⟩
    · obtain rfl := Option.some.inj hoo
      have q5 : uu 5 = .agg #[.int .u32 (fs.toNat : Int), .int .u32 (fd.toNat : Int), .int .u16 (fp.toNat : Int), .int .u16 (fq.toNat : Int), e4, e5, e6, e7, e8, e9, .int .u16 (pt.toNat : Int), .int .u32 (sh.toNat : Int), e12] := hd 5 (by kernel_rfl)
      refine .inl ⟨wanted_none rfl, ?_⟩
      generalize hev : Act.eval _ = ev
      have ec : ∀ c, ev (.const c) = c := fun c => by rw [← hev]; rfl
      have ef : ∀ f, ev (.func f) = .func (.func f) #[] #[] := fun f => by rw [← hev]; rfl
      have e20 : ev (.tmp 20) = .agg #[.int .u32 (fs.toNat : Int), .int .u32 (fd.toNat : Int), .int .u16 (fp.toNat : Int), .int .u16 (fq.toNat : Int), e4, e5, e6, e7, e8, e9, .int .u16 (pt.toNat : Int), .int .u32 (sh.toNat : Int), e12] := by rw [← hev]; exact (eval_put (by kernel_rfl) 83 rfl (by decide)).trans q5
      clear hev hd q5
      exact .inr ⟨_, _, _, by go_simp, (HH W).out, fun e w' he => ⟨_, he.1, rfl, he.2⟩⟩
    · obtain rfl := Option.some.inj hoo
      refine .inl ⟨wanted_none rfl, ?_⟩
      generalize hev : Act.eval _ = ev
      have ec : ∀ c, ev (.const c) = c := fun c => by rw [← hev]; rfl
      clear hev hd
      exact .inl ⟨_, W.alloc (.cells #[.int .u32 0, .int .u32 0, .int .u16 0, .int .u16 0, .int .u32 0, .int .u32 0] 43), by go_simp, ⟨W.heap.size, rfl, hVW.size, Blk.new W #[.int .u32 0, .int .u32 0, .int .u16 0, .int .u16 0, .int .u32 0, .int .u32 0] 43⟩, bnextA (Below.refl _ _) _⟩
    · obtain rfl := Option.some.inj hoo
      refine .inl ⟨wanted_none rfl, ?_⟩
      generalize hev : Act.eval _ = ev
      have ec : ∀ c, ev (.const c) = c := fun c => by rw [← hev]; rfl
      clear hev hd
      exact .inl ⟨_, W.alloc (.cells #[.int .u32 0, .int .u32 0, .int .u16 0, .int .u16 0, .int .u32 0, .int .u32 0] 43), by go_simp, ⟨W.heap.size, rfl, hVW.size, Blk.new W #[.int .u32 0, .int .u32 0, .int .u16 0, .int .u16 0, .int .u32 0, .int .u32 0] 43⟩, bnextA (Below.refl _ _) _⟩
    · omega
  · intro oo uu W hoo hVW hall hsep
    obtain rfl := Option.some.inj hoo
    have q4 : uu 4 = .agg #[.int .u32 (c1.toNat : Int), .int .u32 (to.toNat : Int), .int .u16 (pt.toNat : Int), .int .u16 (port.toNat : Int), .int .u32 0, .int .u32 (sh.toNat : Int)] := hall 4 (by decide)
    have q6 : uu 6 = .agg #[.int .u32 (fd.toNat : Int), .int .u32 (fs.toNat : Int), .int .u16 (fq.toNat : Int), .int .u16 (fp.toNat : Int), .int .u32 (sq.toNat : Int), .int .u32 0] := hall 6 (by decide)
    obtain ⟨g7, q7, hle7, hbk7⟩ := hall 7 (by decide)
    obtain ⟨g8, q8, hle8, hbk8⟩ := hall 8 (by decide)
    refine ⟨wanted_none rfl, ?_⟩
    generalize hev : Act.eval _ = ev
    have ec : ∀ c, ev (.const c) = c := fun c => by rw [← hev]; rfl
    have e11 : ev (.tmp 11) = .pointer (some ⟨g7, 0, none⟩) := by rw [← hev]; exact (eval_put (by kernel_rfl) 83 rfl (by decide)).trans q7
    have e19 : ev (.tmp 19) = .agg #[.int .u32 (c1.toNat : Int), .int .u32 (to.toNat : Int), .int .u16 (pt.toNat : Int), .int .u16 (port.toNat : Int), .int .u32 0, .int .u32 (sh.toNat : Int)] := by rw [← hev]; exact (eval_put (by kernel_rfl) 83 rfl (by decide)).trans q4
    clear hev hall
    obtain ⟨m0, m1, m2, m3, m4, m5, m6, m7, m8, m9, m10, m11⟩ := hbk7.get6
    refine ⟨_, by (go_simp <;> rfl), ?_⟩
    exact ⟨g7, g8, q6, q7, q8, hle7, hle8, fun h => hsep 7 8 (by decide) (by decide) rfl rfl (by decide) (by rw [q7, q8, h]), hbk7.set6 (u0 := .int .u32 (c1.toNat : Int)) (u1 := .int .u32 (to.toNat : Int)) (u2 := .int .u16 (pt.toNat : Int)) (u3 := .int .u16 (port.toNat : Int)) (u4 := .int .u32 0) (u5 := .int .u32 (sh.toNat : Int)), hbk8.oth6 (fun h => hsep 7 8 (by decide) (by decide) rfl rfl (by decide) (by rw [q7, q8, h])) (u0 := .int .u32 (c1.toNat : Int)) (u1 := .int .u32 (to.toNat : Int)) (u2 := .int .u16 (pt.toNat : Int)) (u3 := .int .u16 (port.toNat : Int)) (u4 := .int .u32 0) (u5 := .int .u32 (sh.toNat : Int)), bset6 hVW hle7 (.int .u32 (c1.toNat : Int)) (.int .u32 (to.toNat : Int)) (.int .u16 (pt.toNat : Int)) (.int .u16 (port.toNat : Int)) (.int .u32 0) (.int .u32 (sh.toNat : Int))⟩
  · intro oo uu W hoo hS
    obtain rfl := Option.some.inj hoo
    obtain ⟨g7, g8, q6, q7, q8, hle7, hle8, hne, hbk7, hbk8, hBW⟩ := hS
    refine ⟨wanted_none rfl, ?_⟩
    generalize hev : Act.eval _ = ev
    have ec : ∀ c, ev (.const c) = c := fun c => by rw [← hev]; rfl
    have e12 : ev (.tmp 12) = .pointer (some ⟨g8, 0, none⟩) := by rw [← hev]; exact (eval_put (by kernel_rfl) 83 rfl (by decide)).trans q8
    have e21 : ev (.tmp 21) = .agg #[.int .u32 (fd.toNat : Int), .int .u32 (fs.toNat : Int), .int .u16 (fq.toNat : Int), .int .u16 (fp.toNat : Int), .int .u32 (sq.toNat : Int), .int .u32 0] := by rw [← hev]; exact (eval_put (by kernel_rfl) 83 rfl (by decide)).trans q6
    clear hev
    obtain ⟨m0, m1, m2, m3, m4, m5, m6, m7, m8, m9, m10, m11⟩ := hbk8.get6
    refine ⟨_, by (go_simp <;> rfl), ?_⟩
    have hBU := bset6 hBW hle8 (.int .u32 (fd.toNat : Int)) (.int .u32 (fs.toNat : Int)) (.int .u16 (fq.toNat : Int)) (.int .u16 (fp.toNat : Int)) (.int .u32 (sq.toNat : Int)) (.int .u32 0)
    have KH := hbk8.set6 (u0 := .int .u32 (fd.toNat : Int)) (u1 := .int .u32 (fs.toNat : Int)) (u2 := .int .u16 (fq.toNat : Int)) (u3 := .int .u16 (fp.toNat : Int)) (u4 := .int .u32 (sq.toNat : Int)) (u5 := .int .u32 0)
    have KT := hbk7.oth6 hne (u0 := .int .u32 (fd.toNat : Int)) (u1 := .int .u32 (fs.toNat : Int)) (u2 := .int .u16 (fq.toNat : Int)) (u3 := .int .u16 (fp.toNat : Int)) (u4 := .int .u32 (sq.toNat : Int)) (u5 := .int .u32 0)
    replace KE := KE.next hBU
    replace KC := KC.next hBU
    replace KS := KS.next hBU
    replace hB := hB.trans (hBU.mono hB.size)
    simp only [setAll6] at KH KT KE KC KS hB
    clear hbk7 hbk8 hBW hBU hne hle7 hle8 m0 m1 m2 m3 m4 m5 m6 m7 m8 m9 m10 m11
    simp only [putAll, Act.put, Nat.reduceAdd, q7, q8]
    simp only [List.setIfInBounds_toArray, List.set_cons_succ, List.set_cons_zero]
    clear q6 q7 q8
    have R1 := H1.next hB
    have R2 := H2.next hB
    generalize ((((((W.setCell ⟨g8, 0, none⟩ (.int .u32 (fd.toNat : Int))).setCell ⟨g8, 1, none⟩ (.int .u32 (fs.toNat : Int))).setCell ⟨g8, 2, none⟩ (.int .u16 (fq.toNat : Int))).setCell ⟨g8, 3, none⟩ (.int .u16 (fp.toNat : Int))).setCell ⟨g8, 4, none⟩ (.int .u32 (sq.toNat : Int))).setCell ⟨g8, 5, none⟩ (.int .u32 0)) = V2 at *
    clear H1 H2 HT HH
    obtain ⟨t0, t1, t2, t3, t4, t5, -⟩ := KT.get6
    have f6 := KE.cell 10
    have f7 := KE.cell 11
    have c13 := KC.cell 13
    rw [hcs] at c13
    simp only [List.getElem?_cons_succ, List.getElem?_cons_zero] at f6 f7
    go_wp2_with fail
    clear t0 t1 t2 t3 t4 t5 f6 f7 c13
    have HS5 : ∀ W, Below V2.heap.size V2 W → (W.cell? ⟨w.heap.size, 0, none⟩ = some (.int .u32 (fs.toNat : Int)) ∧ W.cell? ⟨w.heap.size, 1, none⟩ = some (.int .u32 (fd.toNat : Int)) ∧ W.cell? ⟨w.heap.size, 2, none⟩ = some (.int .u16 (fp.toNat : Int)) ∧ W.cell? ⟨w.heap.size, 3, none⟩ = some (.int .u16 (fq.toNat : Int)) ∧ W.cell? ⟨w.heap.size, 10, none⟩ = some (.int .u16 (pt.toNat : Int)) ∧ W.cell? ⟨w.heap.size, 11, none⟩ = some (.int .u32 (sh.toNat : Int))) := by
      intro W h
      exact ⟨(KE.next h).cell 0, (KE.next h).cell 1, (KE.next h).cell 2, (KE.next h).cell 3, (KE.next h).cell 10, (KE.next h).cell 11⟩
    refine region_put (by kernel_rfl) (by kernel_rfl) (by kernel_rfl) 83 rfl (by kernel_rfl) V2 (fun i v W => match i with
        | 0 => v = .agg #[.int .u32 (fd.toNat : Int), .int .u32 (fs.toNat : Int), .int .u16 (fq.toNat : Int), .int .u16 (fp.toNat : Int), .int .u32 (sq.toNat : Int), .int .u32 0]
        | 1 => v = .pointer (some ⟨w.heap.size, 0, none⟩)
        | 2 => v = .pointer (some ⟨w.heap.size, 1, none⟩)
        | 3 => v = .int .u32 (fd.toNat : Int)
        | 4 => v = .pointer (some ⟨w.heap.size, 0, none⟩)
        | 5 => v = .pointer (some ⟨w.heap.size, 0, none⟩)
        | 6 => v = .int .u32 (fs.toNat : Int)
        | 7 => v = .pointer (some ⟨w.heap.size, 0, none⟩)
        | 8 => v = .pointer (some ⟨w.heap.size, 3, none⟩)
        | 9 => v = .int .u16 (fq.toNat : Int)
        | 10 => v = .pointer (some ⟨w.heap.size, 0, none⟩)
        | 11 => v = .pointer (some ⟨w.heap.size, 2, none⟩)
        | 12 => v = .int .u16 (fp.toNat : Int)
        | 13 => v = .pointer (some ⟨w.heap.size, 11, none⟩)
        | 14 => v = .int .u32 (sh.toNat : Int)
        | 15 => v = .int .u32 (sq.toNat : Int)
        | 16 => v = .agg #[.int .u32 (fd.toNat : Int), .int .u32 (fs.toNat : Int), .int .u16 (fq.toNat : Int), .int .u16 (fp.toNat : Int), .int .u32 (sq.toNat : Int), .int .u32 0]
        | 17 => v = .bool false
        | _ => True) (Below.refl _ _) ?_ ?_ ?_
    · intro i v W W' h hb
      match i, h with
      | 0, h => exact h
      | 1, h => exact h
      | 2, h => exact h
      | 3, h => exact h
      | 4, h => exact h
      | 5, h => exact h
      | 6, h => exact h
      | 7, h => exact h
      | 8, h => exact h
      | 9, h => exact h
      | 10, h => exact h
      | 11, h => exact h
      | 12, h => exact h
      | 13, h => exact h
      | 14, h => exact h
      | 15, h => exact h
      | 16, h => exact h
      | 17, h => exact h
      | _ + 18, _ => trivial
    · intro i o uu W hoo hVW hd
      rcases i with _|_|_|_|_|_|_|_|_|_|_|_|_|_|_|_|_|_|i
      · obtain rfl := Option.some.inj hoo
        refine .inl ⟨wanted_none rfl, ?_⟩
        generalize hev : Act.eval _ = ev
        have ec : ∀ c, ev (.const c) = c := fun c => by rw [← hev]; rfl
        have e12 : ev (.tmp 12) = .pointer (some ⟨g8, 0, none⟩) := by rw [← hev]; exact eval_old (by kernel_rfl) 83 rfl (by decide) rfl
        clear hev hd
        exact .inl ⟨_, W, load_blk Try.underlying43 (by kernel_rfl) (KH.next hVW) rfl e12, rfl, Below.refl _ _⟩
      · obtain rfl := Option.some.inj hoo
        refine .inl ⟨wanted_none rfl, ?_⟩
        generalize hev : Act.eval _ = ev
        have ec : ∀ c, ev (.const c) = c := fun c => by rw [← hev]; rfl
        have e5 : ev (.tmp 5) = .pointer (some ⟨w.heap.size, 0, none⟩) := by rw [← hev]; exact eval_old (by kernel_rfl) 83 rfl (by decide) rfl
        clear hev hd
        exact .inl ⟨_, W, by go_simp, rfl, Below.refl _ _⟩
      · obtain rfl := Option.some.inj hoo
        have q1 : uu 1 = .pointer (some ⟨w.heap.size, 0, none⟩) := hd 1 (by kernel_rfl)
        refine .inl ⟨wanted_none rfl, ?_⟩
        generalize hev : Act.eval _ = ev
        have ec : ∀ c, ev (.const c) = c := fun c => by rw [← hev]; rfl
        have e35 : ev (.tmp 35) = .pointer (some ⟨w.heap.size, 0, none⟩) := by rw [← hev]; exact (eval_put (by kernel_rfl) 83 rfl (by decide)).trans q1
        clear hev hd q1
        exact .inl ⟨_, W, by go_simp, rfl, Below.refl _ _⟩
      · obtain rfl := Option.some.inj hoo
        have q2 : uu 2 = .pointer (some ⟨w.heap.size, 1, none⟩) := hd 2 (by kernel_rfl)
        refine .inl ⟨wanted_none rfl, ?_⟩
        generalize hev : Act.eval _ = ev
        have ec : ∀ c, ev (.const c) = c := fun c => by rw [← hev]; rfl
        have e36 : ev (.tmp 36) = .pointer (some ⟨w.heap.size, 1, none⟩) := by rw [← hev]; exact (eval_put (by kernel_rfl) 83 rfl (by decide)).trans q2
        clear hev hd q2
        obtain ⟨cc0, cc1, cc2, cc3, cc4, cc5⟩ := HS5 W hVW
        exact .inl ⟨_, W, by go_simp, rfl, Below.refl _ _⟩
      · obtain rfl := Option.some.inj hoo
        refine .inl ⟨wanted_none rfl, ?_⟩
        generalize hev : Act.eval _ = ev
        have ec : ∀ c, ev (.const c) = c := fun c => by rw [← hev]; rfl
        have e5 : ev (.tmp 5) = .pointer (some ⟨w.heap.size, 0, none⟩) := by rw [← hev]; exact eval_old (by kernel_rfl) 83 rfl (by decide) rfl
        clear hev hd
        exact .inl ⟨_, W, by go_simp, rfl, Below.refl _ _⟩
      · obtain rfl := Option.some.inj hoo
        have q4 : uu 4 = .pointer (some ⟨w.heap.size, 0, none⟩) := hd 4 (by kernel_rfl)
        refine .inl ⟨wanted_none rfl, ?_⟩
        generalize hev : Act.eval _ = ev
        have ec : ∀ c, ev (.const c) = c := fun c => by rw [← hev]; rfl
        have e38 : ev (.tmp 38) = .pointer (some ⟨w.heap.size, 0, none⟩) := by rw [← hev]; exact (eval_put (by kernel_rfl) 83 rfl (by decide)).trans q4
        clear hev hd q4
        exact .inl ⟨_, W, by go_simp, rfl, Below.refl _ _⟩
      · obtain rfl := Option.some.inj hoo
        have q5 : uu 5 = .pointer (some ⟨w.heap.size, 0, none⟩) := hd 5 (by kernel_rfl)
        refine .inl ⟨wanted_none rfl, ?_⟩
        generalize hev : Act.eval _ = ev
        have ec : ∀ c, ev (.const c) = c := fun c => by rw [← hev]; rfl
        have e39 : ev (.tmp 39) = .pointer (some ⟨w.heap.size, 0, none⟩) := by rw [← hev]; exact (eval_put (by kernel_rfl) 83 rfl (by decide)).trans q5
        clear hev hd q5
        obtain ⟨cc0, cc1, cc2, cc3, cc4, cc5⟩ := HS5 W hVW
        exact .inl ⟨_, W, by go_simp, rfl, Below.refl _ _⟩
      · obtain rfl := Option.some.inj hoo
        refine .inl ⟨wanted_none rfl, ?_⟩
        generalize hev : Act.eval _ = ev
        have ec : ∀ c, ev (.const c) = c := fun c => by rw [← hev]; rfl
        have e5 : ev (.tmp 5) = .pointer (some ⟨w.heap.size, 0, none⟩) := by rw [← hev]; exact eval_old (by kernel_rfl) 83 rfl (by decide) rfl
        clear hev hd
        exact .inl ⟨_, W, by go_simp, rfl, Below.refl _ _⟩
      · obtain rfl := Option.some.inj hoo
        have q7 : uu 7 = .pointer (some ⟨w.heap.size, 0, none⟩) := hd 7 (by kernel_rfl)
        refine .inl ⟨wanted_none rfl, ?_⟩
        generalize hev : Act.eval _ = ev
        have ec : ∀ c, ev (.const c) = c := fun c => by rw [← hev]; rfl
        have e41 : ev (.tmp 41) = .pointer (some ⟨w.heap.size, 0, none⟩) := by rw [← hev]; exact (eval_put (by kernel_rfl) 83 rfl (by decide)).trans q7
        clear hev hd q7
        exact .inl ⟨_, W, by go_simp, rfl, Below.refl _ _⟩
      · obtain rfl := Option.some.inj hoo
        have q8 : uu 8 = .pointer (some ⟨w.heap.size, 3, none⟩) := hd 8 (by kernel_rfl)
        refine .inl ⟨wanted_none rfl, ?_⟩
        generalize hev : Act.eval _ = ev
        have ec : ∀ c, ev (.const c) = c := fun c => by rw [← hev]; rfl
        have e42 : ev (.tmp 42) = .pointer (some ⟨w.heap.size, 3, none⟩) := by rw [← hev]; exact (eval_put (by kernel_rfl) 83 rfl (by decide)).trans q8
        clear hev hd q8
        obtain ⟨cc0, cc1, cc2, cc3, cc4, cc5⟩ := HS5 W hVW
        exact .inl ⟨_, W, by go_simp, rfl, Below.refl _ _⟩
      · obtain rfl := Option.some.inj hoo
        refine .inl ⟨wanted_none rfl, ?_⟩
        generalize hev : Act.eval _ = ev
        have ec : ∀ c, ev (.const c) = c := fun c => by rw [← hev]; rfl
        have e5 : ev (.tmp 5) = .pointer (some ⟨w.heap.size, 0, none⟩) := by rw [← hev]; exact eval_old (by kernel_rfl) 83 rfl (by decide) rfl
        clear hev hd
        exact .inl ⟨_, W, by go_simp, rfl, Below.refl _ _⟩
      · obtain rfl := Option.some.inj hoo
        have q10 : uu 10 = .pointer (some ⟨w.heap.size, 0, none⟩) := hd 10 (by kernel_rfl)
        refine .inl ⟨wanted_none rfl, ?_⟩
        generalize hev : Act.eval _ = ev
        have ec : ∀ c, ev (.const c) = c := fun c => by rw [← hev]; rfl
        have e44 : ev (.tmp 44) = .pointer (some ⟨w.heap.size, 0, none⟩) := by rw [← hev]; exact (eval_put (by kernel_rfl) 83 rfl (by decide)).trans q10
        clear hev hd q10
        exact .inl ⟨_, W, by go_simp, rfl, Below.refl _ _⟩
      · obtain rfl := Option.some.inj hoo
        have q11 : uu 11 = .pointer (some ⟨w.heap.size, 2, none⟩) := hd 11 (by kernel_rfl)
        refine .inl ⟨wanted_none rfl, ?_⟩
        generalize hev : Act.eval _ = ev
        have ec : ∀ c, ev (.const c) = c := fun c => by rw [← hev]; rfl
        have e45 : ev (.tmp 45) = .pointer (some ⟨w.heap.size, 2, none⟩) := by rw [← hev]; exact (eval_put (by kernel_rfl) 83 rfl (by decide)).trans q11
        clear hev hd q11
        obtain ⟨cc0, cc1, cc2, cc3, cc4, cc5⟩ := HS5 W hVW
        exact .inl ⟨_, W, by go_simp, rfl, Below.refl _ _⟩
      · obtain rfl := Option.some.inj hoo
        refine .inl ⟨wanted_none rfl, ?_⟩
        generalize hev : Act.eval _ = ev
        have ec : ∀ c, ev (.const c) = c := fun c => by rw [← hev]; rfl
        have e5 : ev (.tmp 5) = .pointer (some ⟨w.heap.size, 0, none⟩) := by rw [← hev]; exact eval_old (by kernel_rfl) 83 rfl (by decide) rfl
        clear hev hd
        exact .inl ⟨_, W, by go_simp, rfl, Below.refl _ _⟩
      · obtain rfl := Option.some.inj hoo
        have q13 : uu 13 = .pointer (some ⟨w.heap.size, 11, none⟩) := hd 13 (by kernel_rfl)
        refine .inl ⟨wanted_none rfl, ?_⟩
        generalize hev : Act.eval _ = ev
        have ec : ∀ c, ev (.const c) = c := fun c => by rw [← hev]; rfl
        have e47 : ev (.tmp 47) = .pointer (some ⟨w.heap.size, 11, none⟩) := by rw [← hev]; exact (eval_put (by kernel_rfl) 83 rfl (by decide)).trans q13
        clear hev hd q13
        obtain ⟨cc0, cc1, cc2, cc3, cc4, cc5⟩ := HS5 W hVW
        exact .inl ⟨_, W, by go_simp, rfl, Below.refl _ _⟩
      · obtain rfl := Option.some.inj hoo
        have q14 : uu 14 = .int .u32 (sh.toNat : Int) := hd 14 (by kernel_rfl)
        refine .inl ⟨wanted_none rfl, ?_⟩
        generalize hev : Act.eval _ = ev
        have ec : ∀ c, ev (.const c) = c := fun c => by rw [← hev]; rfl
        have ef : ∀ f, ev (.func f) = .func (.func f) #[] #[] := fun f => by rw [← hev]; rfl
        have e48 : ev (.tmp 48) = .int .u32 (sh.toNat : Int) := by rw [← hev]; exact (eval_put (by kernel_rfl) 83 rfl (by decide)).trans q14
        clear hev hd q14
        exact .inr ⟨_, _, _, by go_simp, (HOP W).out, fun e w' he => ⟨_, he.1, rfl, he.2⟩⟩
      · obtain rfl := Option.some.inj hoo
        have q3 : uu 3 = .int .u32 (fd.toNat : Int) := hd 3 (by kernel_rfl)
        have q6 : uu 6 = .int .u32 (fs.toNat : Int) := hd 6 (by kernel_rfl)
        have q9 : uu 9 = .int .u16 (fq.toNat : Int) := hd 9 (by kernel_rfl)
        have q12 : uu 12 = .int .u16 (fp.toNat : Int) := hd 12 (by kernel_rfl)
        have q15 : uu 15 = .int .u32 (sq.toNat : Int) := hd 15 (by kernel_rfl)
        refine .inl ⟨wanted_none rfl, ?_⟩
        generalize hev : Act.eval _ = ev
        have ec : ∀ c, ev (.const c) = c := fun c => by rw [← hev]; rfl
        have e37 : ev (.tmp 37) = .int .u32 (fd.toNat : Int) := by rw [← hev]; exact (eval_put (by kernel_rfl) 83 rfl (by decide)).trans q3
        have e40 : ev (.tmp 40) = .int .u32 (fs.toNat : Int) := by rw [← hev]; exact (eval_put (by kernel_rfl) 83 rfl (by decide)).trans q6
        have e43 : ev (.tmp 43) = .int .u16 (fq.toNat : Int) := by rw [← hev]; exact (eval_put (by kernel_rfl) 83 rfl (by decide)).trans q9
        have e46 : ev (.tmp 46) = .int .u16 (fp.toNat : Int) := by rw [← hev]; exact (eval_put (by kernel_rfl) 83 rfl (by decide)).trans q12
        have e49 : ev (.tmp 49) = .int .u32 (sq.toNat : Int) := by rw [← hev]; exact (eval_put (by kernel_rfl) 83 rfl (by decide)).trans q15
        clear hev hd q3 q6 q9 q12 q15
        exact .inl ⟨_, W, by go_simp, rfl, Below.refl _ _⟩
      · obtain rfl := Option.some.inj hoo
        have q0 : uu 0 = .agg #[.int .u32 (fd.toNat : Int), .int .u32 (fs.toNat : Int), .int .u16 (fq.toNat : Int), .int .u16 (fp.toNat : Int), .int .u32 (sq.toNat : Int), .int .u32 0] := hd 0 (by kernel_rfl)
        have q16 : uu 16 = .agg #[.int .u32 (fd.toNat : Int), .int .u32 (fs.toNat : Int), .int .u16 (fq.toNat : Int), .int .u16 (fp.toNat : Int), .int .u32 (sq.toNat : Int), .int .u32 0] := hd 16 (by kernel_rfl)
        refine .inl ⟨wanted_none rfl, ?_⟩
        generalize hev : Act.eval _ = ev
        have ec : ∀ c, ev (.const c) = c := fun c => by rw [← hev]; rfl
        have e34 : ev (.tmp 34) = .agg #[.int .u32 (fd.toNat : Int), .int .u32 (fs.toNat : Int), .int .u16 (fq.toNat : Int), .int .u16 (fp.toNat : Int), .int .u32 (sq.toNat : Int), .int .u32 0] := by rw [← hev]; exact (eval_put (by kernel_rfl) 83 rfl (by decide)).trans q0
        have e50 : ev (.tmp 50) = .agg #[.int .u32 (fd.toNat : Int), .int .u32 (fs.toNat : Int), .int .u16 (fq.toNat : Int), .int .u16 (fp.toNat : Int), .int .u32 (sq.toNat : Int), .int .u32 0] := by rw [← hev]; exact (eval_put (by kernel_rfl) 83 rfl (by decide)).trans q16
        clear hev hd q0 q16
        exact .inl ⟨_, W, by go_simp, rfl, Below.refl _ _⟩
      · simp at hoo
    · intro uu W hVW hall
      have q17 : uu 17 = .bool false := hall 17 (by decide)
      replace hB := hB.trans (hVW.mono hB.size)
      replace KE := KE.next hVW
      replace KS := KS.next hVW
      replace KT := KT.next hVW
      replace KH := KH.next hVW
      replace R1 := R1.next hVW
      replace R2 := R2.next hVW
      clear hall hVW HS5 KC
      simp only [putAll, Act.put, Nat.reduceAdd, q17]
      simp only [List.setIfInBounds_toArray, List.set_cons_succ, List.set_cons_zero]
      clear q17
      generalize W = V3 at *
      have HS7 : ∀ W, Below V3.heap.size V3 W → (W.cell? ⟨w.heap.size, 0, none⟩ = some (.int .u32 (fs.toNat : Int)) ∧ W.cell? ⟨w.heap.size, 1, none⟩ = some (.int .u32 (fd.toNat : Int)) ∧ W.cell? ⟨w.heap.size, 2, none⟩ = some (.int .u16 (fp.toNat : Int)) ∧ W.cell? ⟨w.heap.size, 3, none⟩ = some (.int .u16 (fq.toNat : Int)) ∧ W.cell? ⟨w.heap.size, 10, none⟩ = some (.int .u16 (pt.toNat : Int)) ∧ W.cell? ⟨w.heap.size, 11, none⟩ = some (.int .u32 (sh.toNat : Int))) := by
        intro W h
        exact ⟨(KE.next h).cell 0, (KE.next h).cell 1, (KE.next h).cell 2, (KE.next h).cell 3, (KE.next h).cell 10, (KE.next h).cell 11⟩
      go_wp2_with fail
      refine region_put (by kernel_rfl) (by kernel_rfl) (by kernel_rfl) 83 rfl (by kernel_rfl) V3 (fun i v W => match i with
          | 0 => v = .agg #[.int .u32 (c1.toNat : Int), .int .u32 (to.toNat : Int), .int .u16 (pt.toNat : Int), .int .u16 (port.toNat : Int), .int .u32 0, .int .u32 (sh.toNat : Int)]
          | 1 => v = .agg #[.int .u16 (a.toNat : Int), .int .u16 (b.toNat : Int), .int .u32 (q.toNat : Int), .int .u32 (k.toNat : Int), .int .u8 (r.toNat : Int), .int .u8 (f.toNat : Int), .int .u16 (z.toNat : Int), .int .u16 (u.toNat : Int), .slice a8 os.length cap8, .slice a9 xs.length cap9]
          | 2 => ∃ L A c M B d, v = .agg #[.int .u16 (pt.toNat : Int), .int .u16 (port.toNat : Int), .int .u32 (q.toNat : Int), .int .u32 (kt.toNat : Int), .int .u8 (r.toNat : Int), .int .u8 (f.toNat : Int), .int .u16 (z.toNat : Int), .int .u16 (u.toNat : Int), .slice A L.length c, .slice B M.length d] ∧ Hid (L = os) ∧ Hid (M = xs) ∧ Rd bv W W.heap.size A c L ∧ Rd bv W W.heap.size B d M
          | 3 => v = .pointer (some ⟨w.heap.size, 10, none⟩)
          | 4 => v = .int .u16 (pt.toNat : Int)
          | 5 => v = .int .u16 (port.toNat : Int)
          | 6 => v = .pointer (some ⟨w.heap.size, 11, none⟩)
          | 7 => v = .int .u32 (sh.toNat : Int)
          | 8 => v = .agg #[.int .u16 (a.toNat : Int), .int .u16 (b.toNat : Int), .int .u32 (q.toNat : Int), .int .u32 (k.toNat : Int), .int .u8 (r.toNat : Int), .int .u8 (f.toNat : Int), .int .u16 (z.toNat : Int), .int .u16 (u.toNat : Int), .slice a8 os.length cap8, .slice a9 xs.length cap9]
          | 9 => v = .agg #[.int .u16 (pt.toNat : Int), .int .u16 (port.toNat : Int), .int .u32 (q.toNat : Int), .int .u32 (kt.toNat : Int), .int .u8 (r.toNat : Int), .int .u8 (f.toNat : Int), .int .u16 (z.toNat : Int), .int .u16 (u.toNat : Int), .slice a8 os.length cap8, .slice a9 xs.length cap9]
          | 10 => v = .bool true
          | 11 => v = .bool true
          | 12 => v = .agg #[.int .u32 (fd.toNat : Int), .int .u32 (fs.toNat : Int), .int .u16 (fq.toNat : Int), .int .u16 (fp.toNat : Int), .int .u32 (sq.toNat : Int), .int .u32 0]
          | 13 => v = .agg #[.int .u16 (a.toNat : Int), .int .u16 (b.toNat : Int), .int .u32 (q.toNat : Int), .int .u32 (k.toNat : Int), .int .u8 (r.toNat : Int), .int .u8 (f.toNat : Int), .int .u16 (z.toNat : Int), .int .u16 (u.toNat : Int), .slice a8 os.length cap8, .slice a9 xs.length cap9]
          | 14 => ∃ L A c M B d, v = .agg #[.int .u16 (fq.toNat : Int), .int .u16 (fp.toNat : Int), .int .u32 (qh.toNat : Int), .int .u32 (k.toNat : Int), .int .u8 (r.toNat : Int), .int .u8 (f.toNat : Int), .int .u16 (z.toNat : Int), .int .u16 (u.toNat : Int), .slice A L.length c, .slice B M.length d] ∧ Hid (L = os) ∧ Hid (M = xs) ∧ Rd bv W W.heap.size A c L ∧ Rd bv W W.heap.size B d M
          | 15 => v = .pointer (some ⟨w.heap.size, 0, none⟩)
          | 16 => v = .pointer (some ⟨w.heap.size, 3, none⟩)
          | 17 => v = .int .u16 (fq.toNat : Int)
          | 18 => v = .pointer (some ⟨w.heap.size, 0, none⟩)
          | 19 => v = .pointer (some ⟨w.heap.size, 2, none⟩)
          | 20 => v = .int .u16 (fp.toNat : Int)
          | 21 => v = .pointer (some ⟨w.heap.size, 11, none⟩)
          | 22 => v = .int .u32 (sh.toNat : Int)
          | 23 => v = .int .u32 (sq.toNat : Int)
          | 24 => v = .agg #[.int .u16 (a.toNat : Int), .int .u16 (b.toNat : Int), .int .u32 (q.toNat : Int), .int .u32 (k.toNat : Int), .int .u8 (r.toNat : Int), .int .u8 (f.toNat : Int), .int .u16 (z.toNat : Int), .int .u16 (u.toNat : Int), .slice a8 os.length cap8, .slice a9 xs.length cap9]
          | 25 => v = .agg #[.int .u16 (fq.toNat : Int), .int .u16 (fp.toNat : Int), .int .u32 (qh.toNat : Int), .int .u32 (k.toNat : Int), .int .u8 (r.toNat : Int), .int .u8 (f.toNat : Int), .int .u16 (z.toNat : Int), .int .u16 (u.toNat : Int), .slice a8 os.length cap8, .slice a9 xs.length cap9]
          | 26 => v = .bool true
          | 27 => v = .bool true
          | 28 => v = .bool true
          | 29 => v = .bool true
          | 30 => v = .bool true
          | 31 => v = .bool true
          | _ => True) (Below.refl _ _) ?_ ?_ ?_
      · intro i v W W' h hb
        match i, h with
        | 0, h => exact h
        | 1, h => exact h
        | 2, h => obtain ⟨L, A, c, M, B, d, h1, h2, h3, h4, h5⟩ := h; exact ⟨L, A, c, M, B, d, h1, h2, h3, h4.next hb, h5.next hb⟩
        | 3, h => exact h
        | 4, h => exact h
        | 5, h => exact h
        | 6, h => exact h
        | 7, h => exact h
        | 8, h => exact h
        | 9, h => exact h
        | 10, h => exact h
        | 11, h => exact h
        | 12, h => exact h
        | 13, h => exact h
        | 14, h => obtain ⟨L, A, c, M, B, d, h1, h2, h3, h4, h5⟩ := h; exact ⟨L, A, c, M, B, d, h1, h2, h3, h4.next hb, h5.next hb⟩
        | 15, h => exact h
        | 16, h => exact h
        | 17, h => exact h
        | 18, h => exact h
        | 19, h => exact h
        | 20, h => exact h
        | 21, h => exact h
        | 22, h => exact h
        | 23, h => exact h
        | 24, h => exact h
        | 25, h => exact h
        | 26, h => exact h
        | 27, h => exact h
        | 28, h => exact h
        | 29, h => exact h
        | 30, h => exact h
        | 31, h => exact h
        | _ + 32, _ => trivial
      · intro i o uu W hoo hVW hd
        rcases i with _|_|_|_|_|_|_|_|_|_|_|_|_|_|_|_|_|_|_|_|_|_|_|_|_|_|_|_|_|_|_|_|i
        · obtain rfl := Option.some.inj hoo
          refine .inl ⟨wanted_none rfl, ?_⟩
          generalize hev : Act.eval _ = ev
          have ec : ∀ c, ev (.const c) = c := fun c => by rw [← hev]; rfl
          have e11 : ev (.tmp 11) = .pointer (some ⟨g7, 0, none⟩) := by rw [← hev]; exact eval_old (by kernel_rfl) 83 rfl (by decide) rfl
          clear hev hd
          exact .inl ⟨_, W, load_blk Try.underlying43 (by kernel_rfl) (KT.next hVW) rfl e11, rfl, Below.refl _ _⟩
        · obtain rfl := Option.some.inj hoo
          refine .inl ⟨wanted_none rfl, ?_⟩
          generalize hev : Act.eval _ = ev
          have ec : ∀ c, ev (.const c) = c := fun c => by rw [← hev]; rfl
          have e9 : ev (.tmp 9) = .pointer (some ⟨w.heap.size + 2, 0, none⟩) := by rw [← hev]; exact eval_old (by kernel_rfl) 83 rfl (by decide) rfl
          clear hev hd
          exact .inl ⟨_, W, load_blk Try.underlying40 (by kernel_rfl) (KS.next hVW) rfl e9, rfl, Below.refl _ _⟩
        · obtain rfl := Option.some.inj hoo
          have q0 : uu 0 = .agg #[.int .u32 (c1.toNat : Int), .int .u32 (to.toNat : Int), .int .u16 (pt.toNat : Int), .int .u16 (port.toNat : Int), .int .u32 0, .int .u32 (sh.toNat : Int)] := hd 0 (by kernel_rfl)
          have q1 : uu 1 = .agg #[.int .u16 (a.toNat : Int), .int .u16 (b.toNat : Int), .int .u32 (q.toNat : Int), .int .u32 (k.toNat : Int), .int .u8 (r.toNat : Int), .int .u8 (f.toNat : Int), .int .u16 (z.toNat : Int), .int .u16 (u.toNat : Int), .slice a8 os.length cap8, .slice a9 xs.length cap9] := hd 1 (by kernel_rfl)
          refine .inl ⟨wanted_none rfl, ?_⟩
          generalize hev : Act.eval _ = ev
          have ec : ∀ c, ev (.const c) = c := fun c => by rw [← hev]; rfl
          have ef : ∀ f, ev (.func f) = .func (.func f) #[] #[] := fun f => by rw [← hev]; rfl
          have e52 : ev (.tmp 52) = .agg #[.int .u32 (c1.toNat : Int), .int .u32 (to.toNat : Int), .int .u16 (pt.toNat : Int), .int .u16 (port.toNat : Int), .int .u32 0, .int .u32 (sh.toNat : Int)] := by rw [← hev]; exact (eval_put (by kernel_rfl) 83 rfl (by decide)).trans q0
          have e53 : ev (.tmp 53) = .agg #[.int .u16 (a.toNat : Int), .int .u16 (b.toNat : Int), .int .u32 (q.toNat : Int), .int .u32 (k.toNat : Int), .int .u8 (r.toNat : Int), .int .u8 (f.toNat : Int), .int .u16 (z.toNat : Int), .int .u16 (u.toNat : Int), .slice a8 os.length cap8, .slice a9 xs.length cap9] := by rw [← hev]; exact (eval_put (by kernel_rfl) 83 rfl (by decide)).trans q1
          clear hev hd q0 q1
          exact .inr ⟨_, _, _, by go_simp, (HA1 W (R1.next hVW) (R2.next hVW)).out, fun e w' he => by
            obtain ⟨L, A, c, M, B, d, rfl, HL, HM, hr, hs, hb⟩ := he
            exact ⟨_, rfl, ⟨L, A, c, M, B, d, rfl, HL, HM, hr, hs⟩, hb⟩⟩
        · obtain rfl := Option.some.inj hoo
          refine .inl ⟨wanted_none rfl, ?_⟩
          generalize hev : Act.eval _ = ev
          have ec : ∀ c, ev (.const c) = c := fun c => by rw [← hev]; rfl
          have e5 : ev (.tmp 5) = .pointer (some ⟨w.heap.size, 0, none⟩) := by rw [← hev]; exact eval_old (by kernel_rfl) 83 rfl (by decide) rfl
          clear hev hd
          exact .inl ⟨_, W, by go_simp, rfl, Below.refl _ _⟩
        · obtain rfl := Option.some.inj hoo
          have q3 : uu 3 = .pointer (some ⟨w.heap.size, 10, none⟩) := hd 3 (by kernel_rfl)
          refine .inl ⟨wanted_none rfl, ?_⟩
          generalize hev : Act.eval _ = ev
          have ec : ∀ c, ev (.const c) = c := fun c => by rw [← hev]; rfl
          have e55 : ev (.tmp 55) = .pointer (some ⟨w.heap.size, 10, none⟩) := by rw [← hev]; exact (eval_put (by kernel_rfl) 83 rfl (by decide)).trans q3
          clear hev hd q3
          obtain ⟨cc0, cc1, cc2, cc3, cc4, cc5⟩ := HS7 W hVW
          exact .inl ⟨_, W, by go_simp, rfl, Below.refl _ _⟩
        · obtain rfl := Option.some.inj hoo
          refine .inl ⟨wanted_none rfl, ?_⟩
          generalize hev : Act.eval _ = ev
          have ec : ∀ c, ev (.const c) = c := fun c => by rw [← hev]; rfl
          have e3 : ev (.tmp 3) = .int .u16 (port.toNat : Int) := by rw [← hev]; exact eval_old (by kernel_rfl) 83 rfl (by decide) rfl
          clear hev hd
          exact .inl ⟨_, W, by go_simp, rfl, Below.refl _ _⟩
        · obtain rfl := Option.some.inj hoo
          refine .inl ⟨wanted_none rfl, ?_⟩
          generalize hev : Act.eval _ = ev
          have ec : ∀ c, ev (.const c) = c := fun c => by rw [← hev]; rfl
          have e5 : ev (.tmp 5) = .pointer (some ⟨w.heap.size, 0, none⟩) := by rw [← hev]; exact eval_old (by kernel_rfl) 83 rfl (by decide) rfl
          clear hev hd
          exact .inl ⟨_, W, by go_simp, rfl, Below.refl _ _⟩
        · obtain rfl := Option.some.inj hoo
          have q6 : uu 6 = .pointer (some ⟨w.heap.size, 11, none⟩) := hd 6 (by kernel_rfl)
          refine .inl ⟨wanted_none rfl, ?_⟩
          generalize hev : Act.eval _ = ev
          have ec : ∀ c, ev (.const c) = c := fun c => by rw [← hev]; rfl
          have e58 : ev (.tmp 58) = .pointer (some ⟨w.heap.size, 11, none⟩) := by rw [← hev]; exact (eval_put (by kernel_rfl) 83 rfl (by decide)).trans q6
          clear hev hd q6
          obtain ⟨cc0, cc1, cc2, cc3, cc4, cc5⟩ := HS7 W hVW
          exact .inl ⟨_, W, by go_simp, rfl, Below.refl _ _⟩
        · obtain rfl := Option.some.inj hoo
          refine .inl ⟨wanted_none rfl, ?_⟩
          generalize hev : Act.eval _ = ev
          have ec : ∀ c, ev (.const c) = c := fun c => by rw [← hev]; rfl
          have e9 : ev (.tmp 9) = .pointer (some ⟨w.heap.size + 2, 0, none⟩) := by rw [← hev]; exact eval_old (by kernel_rfl) 83 rfl (by decide) rfl
          clear hev hd
          exact .inl ⟨_, W, load_blk Try.underlying40 (by kernel_rfl) (KS.next hVW) rfl e9, rfl, Below.refl _ _⟩
        · obtain rfl := Option.some.inj hoo
          have q4 : uu 4 = .int .u16 (pt.toNat : Int) := hd 4 (by kernel_rfl)
          have q5 : uu 5 = .int .u16 (port.toNat : Int) := hd 5 (by kernel_rfl)
          have q7 : uu 7 = .int .u32 (sh.toNat : Int) := hd 7 (by kernel_rfl)
          have q8 : uu 8 = .agg #[.int .u16 (a.toNat : Int), .int .u16 (b.toNat : Int), .int .u32 (q.toNat : Int), .int .u32 (k.toNat : Int), .int .u8 (r.toNat : Int), .int .u8 (f.toNat : Int), .int .u16 (z.toNat : Int), .int .u16 (u.toNat : Int), .slice a8 os.length cap8, .slice a9 xs.length cap9] := hd 8 (by kernel_rfl)
          refine .inl ⟨wanted_none rfl, ?_⟩
          generalize hev : Act.eval _ = ev
          have ec : ∀ c, ev (.const c) = c := fun c => by rw [← hev]; rfl
          have ef : ∀ f, ev (.func f) = .func (.func f) #[] #[] := fun f => by rw [← hev]; rfl
          have e56 : ev (.tmp 56) = .int .u16 (pt.toNat : Int) := by rw [← hev]; exact (eval_put (by kernel_rfl) 83 rfl (by decide)).trans q4
          have e57 : ev (.tmp 57) = .int .u16 (port.toNat : Int) := by rw [← hev]; exact (eval_put (by kernel_rfl) 83 rfl (by decide)).trans q5
          have e59 : ev (.tmp 59) = .int .u32 (sh.toNat : Int) := by rw [← hev]; exact (eval_put (by kernel_rfl) 83 rfl (by decide)).trans q7
          have e60 : ev (.tmp 60) = .agg #[.int .u16 (a.toNat : Int), .int .u16 (b.toNat : Int), .int .u32 (q.toNat : Int), .int .u32 (k.toNat : Int), .int .u8 (r.toNat : Int), .int .u8 (f.toNat : Int), .int .u16 (z.toNat : Int), .int .u16 (u.toNat : Int), .slice a8 os.length cap8, .slice a9 xs.length cap9] := by rw [← hev]; exact (eval_put (by kernel_rfl) 83 rfl (by decide)).trans q8
          clear hev hd q4 q5 q7 q8
          exact .inr ⟨_, _, _, by go_simp, (HR1 W).out, fun e w' he => ⟨_, he.1, rfl, he.2⟩⟩
        · obtain rfl := Option.some.inj hoo
          obtain ⟨L2, A2, c2, M2, B2, d2, q2, HL2, HM2, r2, s2⟩ := hd 2 (by kernel_rfl)
          have q9 : uu 9 = .agg #[.int .u16 (pt.toNat : Int), .int .u16 (port.toNat : Int), .int .u32 (q.toNat : Int), .int .u32 (kt.toNat : Int), .int .u8 (r.toNat : Int), .int .u8 (f.toNat : Int), .int .u16 (z.toNat : Int), .int .u16 (u.toNat : Int), .slice a8 os.length cap8, .slice a9 xs.length cap9] := hd 9 (by kernel_rfl)
          refine .inl ⟨wanted_none rfl, ?_⟩
          generalize hev : Act.eval _ = ev
          have ec : ∀ c, ev (.const c) = c := fun c => by rw [← hev]; rfl
          have ef : ∀ f, ev (.func f) = .func (.func f) #[] #[] := fun f => by rw [← hev]; rfl
          have e54 : ev (.tmp 54) = .agg #[.int .u16 (pt.toNat : Int), .int .u16 (port.toNat : Int), .int .u32 (q.toNat : Int), .int .u32 (kt.toNat : Int), .int .u8 (r.toNat : Int), .int .u8 (f.toNat : Int), .int .u16 (z.toNat : Int), .int .u16 (u.toNat : Int), .slice A2 L2.length c2, .slice B2 M2.length d2] := by rw [← hev]; exact (eval_put (by kernel_rfl) 83 rfl (by decide)).trans q2
          have e61 : ev (.tmp 61) = .agg #[.int .u16 (pt.toNat : Int), .int .u16 (port.toNat : Int), .int .u32 (q.toNat : Int), .int .u32 (kt.toNat : Int), .int .u8 (r.toNat : Int), .int .u8 (f.toNat : Int), .int .u16 (z.toNat : Int), .int .u16 (u.toNat : Int), .slice a8 os.length cap8, .slice a9 xs.length cap9] := by rw [← hev]; exact (eval_put (by kernel_rfl) 83 rfl (by decide)).trans q9
          clear hev hd q2 q9
          exact .inr ⟨_, _, _, by go_simp, tsame_yes pt port q kt r f z u _ _ _ _ _ _ _ _ L2 M2 os xs W r2 s2 (R1.next hVW) (R2.next hVW) HL2.out.symm HM2.out.symm, fun e w' he => ⟨_, he.1, rfl, he.2⟩⟩
        · obtain rfl := Option.some.inj hoo
          have q10 : uu 10 = .bool true := hd 10 (by kernel_rfl)
          refine .inl ⟨wanted_none rfl, ?_⟩
          generalize hev : Act.eval _ = ev
          have ec : ∀ c, ev (.const c) = c := fun c => by rw [← hev]; rfl
          have e62 : ev (.tmp 62) = .bool true := by rw [← hev]; exact (eval_put (by kernel_rfl) 83 rfl (by decide)).trans q10
          clear hev hd q10
          exact .inl ⟨_, W, by go_simp, rfl, Below.refl _ _⟩
        · obtain rfl := Option.some.inj hoo
          have q11 : uu 11 = .bool true := hd 11 (by kernel_rfl)
          refine .inl ⟨wanted_yes rfl (yielded_put (k := 63) (by kernel_rfl) (by kernel_rfl) 83 rfl (by decide) q11), ?_⟩
          generalize hev : Act.eval _ = ev
          have ec : ∀ c, ev (.const c) = c := fun c => by rw [← hev]; rfl
          have e12 : ev (.tmp 12) = .pointer (some ⟨g8, 0, none⟩) := by rw [← hev]; exact eval_old (by kernel_rfl) 83 rfl (by decide) rfl
          clear hev hd q11
          exact .inl ⟨_, W, load_blk Try.underlying43 (by kernel_rfl) (KH.next hVW) rfl e12, rfl, Below.refl _ _⟩
        · obtain rfl := Option.some.inj hoo
          have q11 : uu 11 = .bool true := hd 11 (by kernel_rfl)
          refine .inl ⟨wanted_yes rfl (yielded_put (k := 63) (by kernel_rfl) (by kernel_rfl) 83 rfl (by decide) q11), ?_⟩
          generalize hev : Act.eval _ = ev
          have ec : ∀ c, ev (.const c) = c := fun c => by rw [← hev]; rfl
          have e9 : ev (.tmp 9) = .pointer (some ⟨w.heap.size + 2, 0, none⟩) := by rw [← hev]; exact eval_old (by kernel_rfl) 83 rfl (by decide) rfl
          clear hev hd q11
          exact .inl ⟨_, W, load_blk Try.underlying40 (by kernel_rfl) (KS.next hVW) rfl e9, rfl, Below.refl _ _⟩
        · obtain rfl := Option.some.inj hoo
          have q12 : uu 12 = .agg #[.int .u32 (fd.toNat : Int), .int .u32 (fs.toNat : Int), .int .u16 (fq.toNat : Int), .int .u16 (fp.toNat : Int), .int .u32 (sq.toNat : Int), .int .u32 0] := hd 12 (by kernel_rfl)
          have q13 : uu 13 = .agg #[.int .u16 (a.toNat : Int), .int .u16 (b.toNat : Int), .int .u32 (q.toNat : Int), .int .u32 (k.toNat : Int), .int .u8 (r.toNat : Int), .int .u8 (f.toNat : Int), .int .u16 (z.toNat : Int), .int .u16 (u.toNat : Int), .slice a8 os.length cap8, .slice a9 xs.length cap9] := hd 13 (by kernel_rfl)
          have q11 : uu 11 = .bool true := hd 11 (by kernel_rfl)
          refine .inl ⟨wanted_yes rfl (yielded_put (k := 63) (by kernel_rfl) (by kernel_rfl) 83 rfl (by decide) q11), ?_⟩
          generalize hev : Act.eval _ = ev
          have ec : ∀ c, ev (.const c) = c := fun c => by rw [← hev]; rfl
          have ef : ∀ f, ev (.func f) = .func (.func f) #[] #[] := fun f => by rw [← hev]; rfl
          have e64 : ev (.tmp 64) = .agg #[.int .u32 (fd.toNat : Int), .int .u32 (fs.toNat : Int), .int .u16 (fq.toNat : Int), .int .u16 (fp.toNat : Int), .int .u32 (sq.toNat : Int), .int .u32 0] := by rw [← hev]; exact (eval_put (by kernel_rfl) 83 rfl (by decide)).trans q12
          have e65 : ev (.tmp 65) = .agg #[.int .u16 (a.toNat : Int), .int .u16 (b.toNat : Int), .int .u32 (q.toNat : Int), .int .u32 (k.toNat : Int), .int .u8 (r.toNat : Int), .int .u8 (f.toNat : Int), .int .u16 (z.toNat : Int), .int .u16 (u.toNat : Int), .slice a8 os.length cap8, .slice a9 xs.length cap9] := by rw [← hev]; exact (eval_put (by kernel_rfl) 83 rfl (by decide)).trans q13
          clear hev hd q12 q13 q11
          exact .inr ⟨_, _, _, by go_simp, (HA2 W (R1.next hVW) (R2.next hVW)).out, fun e w' he => by
            obtain ⟨L, A, c, M, B, d, rfl, HL, HM, hr, hs, hb⟩ := he
            exact ⟨_, rfl, ⟨L, A, c, M, B, d, rfl, HL, HM, hr, hs⟩, hb⟩⟩
        · obtain rfl := Option.some.inj hoo
          have q11 : uu 11 = .bool true := hd 11 (by kernel_rfl)
          refine .inl ⟨wanted_yes rfl (yielded_put (k := 63) (by kernel_rfl) (by kernel_rfl) 83 rfl (by decide) q11), ?_⟩
          generalize hev : Act.eval _ = ev
          have ec : ∀ c, ev (.const c) = c := fun c => by rw [← hev]; rfl
          have e5 : ev (.tmp 5) = .pointer (some ⟨w.heap.size, 0, none⟩) := by rw [← hev]; exact eval_old (by kernel_rfl) 83 rfl (by decide) rfl
          clear hev hd q11
          exact .inl ⟨_, W, by go_simp, rfl, Below.refl _ _⟩
        · obtain rfl := Option.some.inj hoo
          have q15 : uu 15 = .pointer (some ⟨w.heap.size, 0, none⟩) := hd 15 (by kernel_rfl)
          have q11 : uu 11 = .bool true := hd 11 (by kernel_rfl)
          refine .inl ⟨wanted_yes rfl (yielded_put (k := 63) (by kernel_rfl) (by kernel_rfl) 83 rfl (by decide) q11), ?_⟩
          generalize hev : Act.eval _ = ev
          have ec : ∀ c, ev (.const c) = c := fun c => by rw [← hev]; rfl
          have e67 : ev (.tmp 67) = .pointer (some ⟨w.heap.size, 0, none⟩) := by rw [← hev]; exact (eval_put (by kernel_rfl) 83 rfl (by decide)).trans q15
          clear hev hd q15 q11
          exact .inl ⟨_, W, by go_simp, rfl, Below.refl _ _⟩
        · obtain rfl := Option.some.inj hoo
          have q16 : uu 16 = .pointer (some ⟨w.heap.size, 3, none⟩) := hd 16 (by kernel_rfl)
          have q11 : uu 11 = .bool true := hd 11 (by kernel_rfl)
          refine .inl ⟨wanted_yes rfl (yielded_put (k := 63) (by kernel_rfl) (by kernel_rfl) 83 rfl (by decide) q11), ?_⟩
          generalize hev : Act.eval _ = ev
          have ec : ∀ c, ev (.const c) = c := fun c => by rw [← hev]; rfl
          have e68 : ev (.tmp 68) = .pointer (some ⟨w.heap.size, 3, none⟩) := by rw [← hev]; exact (eval_put (by kernel_rfl) 83 rfl (by decide)).trans q16
          clear hev hd q16 q11
          obtain ⟨cc0, cc1, cc2, cc3, cc4, cc5⟩ := HS7 W hVW
          exact .inl ⟨_, W, by go_simp, rfl, Below.refl _ _⟩
        · obtain rfl := Option.some.inj hoo
          have q11 : uu 11 = .bool true := hd 11 (by kernel_rfl)
          refine .inl ⟨wanted_yes rfl (yielded_put (k := 63) (by kernel_rfl) (by kernel_rfl) 83 rfl (by decide) q11), ?_⟩
          generalize hev : Act.eval _ = ev
          have ec : ∀ c, ev (.const c) = c := fun c => by rw [← hev]; rfl
          have e5 : ev (.tmp 5) = .pointer (some ⟨w.heap.size, 0, none⟩) := by rw [← hev]; exact eval_old (by kernel_rfl) 83 rfl (by decide) rfl
          clear hev hd q11
          exact .inl ⟨_, W, by go_simp, rfl, Below.refl _ _⟩
        · obtain rfl := Option.some.inj hoo
          have q18 : uu 18 = .pointer (some ⟨w.heap.size, 0, none⟩) := hd 18 (by kernel_rfl)
          have q11 : uu 11 = .bool true := hd 11 (by kernel_rfl)
          refine .inl ⟨wanted_yes rfl (yielded_put (k := 63) (by kernel_rfl) (by kernel_rfl) 83 rfl (by decide) q11), ?_⟩
          generalize hev : Act.eval _ = ev
          have ec : ∀ c, ev (.const c) = c := fun c => by rw [← hev]; rfl
          have e70 : ev (.tmp 70) = .pointer (some ⟨w.heap.size, 0, none⟩) := by rw [← hev]; exact (eval_put (by kernel_rfl) 83 rfl (by decide)).trans q18
          clear hev hd q18 q11
          exact .inl ⟨_, W, by go_simp, rfl, Below.refl _ _⟩
        · obtain rfl := Option.some.inj hoo
          have q19 : uu 19 = .pointer (some ⟨w.heap.size, 2, none⟩) := hd 19 (by kernel_rfl)
          have q11 : uu 11 = .bool true := hd 11 (by kernel_rfl)
          refine .inl ⟨wanted_yes rfl (yielded_put (k := 63) (by kernel_rfl) (by kernel_rfl) 83 rfl (by decide) q11), ?_⟩
          generalize hev : Act.eval _ = ev
          have ec : ∀ c, ev (.const c) = c := fun c => by rw [← hev]; rfl
          have e71 : ev (.tmp 71) = .pointer (some ⟨w.heap.size, 2, none⟩) := by rw [← hev]; exact (eval_put (by kernel_rfl) 83 rfl (by decide)).trans q19
          clear hev hd q19 q11
          obtain ⟨cc0, cc1, cc2, cc3, cc4, cc5⟩ := HS7 W hVW
          exact .inl ⟨_, W, by go_simp, rfl, Below.refl _ _⟩
        · obtain rfl := Option.some.inj hoo
          have q11 : uu 11 = .bool true := hd 11 (by kernel_rfl)
          refine .inl ⟨wanted_yes rfl (yielded_put (k := 63) (by kernel_rfl) (by kernel_rfl) 83 rfl (by decide) q11), ?_⟩
          generalize hev : Act.eval _ = ev
          have ec : ∀ c, ev (.const c) = c := fun c => by rw [← hev]; rfl
          have e5 : ev (.tmp 5) = .pointer (some ⟨w.heap.size, 0, none⟩) := by rw [← hev]; exact eval_old (by kernel_rfl) 83 rfl (by decide) rfl
          clear hev hd q11
          exact .inl ⟨_, W, by go_simp, rfl, Below.refl _ _⟩
        · obtain rfl := Option.some.inj hoo
          have q21 : uu 21 = .pointer (some ⟨w.heap.size, 11, none⟩) := hd 21 (by kernel_rfl)
          have q11 : uu 11 = .bool true := hd 11 (by kernel_rfl)
          refine .inl ⟨wanted_yes rfl (yielded_put (k := 63) (by kernel_rfl) (by kernel_rfl) 83 rfl (by decide) q11), ?_⟩
          generalize hev : Act.eval _ = ev
          have ec : ∀ c, ev (.const c) = c := fun c => by rw [← hev]; rfl
          have e73 : ev (.tmp 73) = .pointer (some ⟨w.heap.size, 11, none⟩) := by rw [← hev]; exact (eval_put (by kernel_rfl) 83 rfl (by decide)).trans q21
          clear hev hd q21 q11
          obtain ⟨cc0, cc1, cc2, cc3, cc4, cc5⟩ := HS7 W hVW
          exact .inl ⟨_, W, by go_simp, rfl, Below.refl _ _⟩
        · obtain rfl := Option.some.inj hoo
          have q22 : uu 22 = .int .u32 (sh.toNat : Int) := hd 22 (by kernel_rfl)
          have q11 : uu 11 = .bool true := hd 11 (by kernel_rfl)
          refine .inl ⟨wanted_yes rfl (yielded_put (k := 63) (by kernel_rfl) (by kernel_rfl) 83 rfl (by decide) q11), ?_⟩
          generalize hev : Act.eval _ = ev
          have ec : ∀ c, ev (.const c) = c := fun c => by rw [← hev]; rfl
          have ef : ∀ f, ev (.func f) = .func (.func f) #[] #[] := fun f => by rw [← hev]; rfl
          have e74 : ev (.tmp 74) = .int .u32 (sh.toNat : Int) := by rw [← hev]; exact (eval_put (by kernel_rfl) 83 rfl (by decide)).trans q22
          clear hev hd q22 q11
          exact .inr ⟨_, _, _, by go_simp, (HOP W).out, fun e w' he => ⟨_, he.1, rfl, he.2⟩⟩
        · obtain rfl := Option.some.inj hoo
          have q11 : uu 11 = .bool true := hd 11 (by kernel_rfl)
          refine .inl ⟨wanted_yes rfl (yielded_put (k := 63) (by kernel_rfl) (by kernel_rfl) 83 rfl (by decide) q11), ?_⟩
          generalize hev : Act.eval _ = ev
          have ec : ∀ c, ev (.const c) = c := fun c => by rw [← hev]; rfl
          have e9 : ev (.tmp 9) = .pointer (some ⟨w.heap.size + 2, 0, none⟩) := by rw [← hev]; exact eval_old (by kernel_rfl) 83 rfl (by decide) rfl
          clear hev hd q11
          exact .inl ⟨_, W, load_blk Try.underlying40 (by kernel_rfl) (KS.next hVW) rfl e9, rfl, Below.refl _ _⟩
        · obtain rfl := Option.some.inj hoo
          have q17 : uu 17 = .int .u16 (fq.toNat : Int) := hd 17 (by kernel_rfl)
          have q20 : uu 20 = .int .u16 (fp.toNat : Int) := hd 20 (by kernel_rfl)
          have q23 : uu 23 = .int .u32 (sq.toNat : Int) := hd 23 (by kernel_rfl)
          have q24 : uu 24 = .agg #[.int .u16 (a.toNat : Int), .int .u16 (b.toNat : Int), .int .u32 (q.toNat : Int), .int .u32 (k.toNat : Int), .int .u8 (r.toNat : Int), .int .u8 (f.toNat : Int), .int .u16 (z.toNat : Int), .int .u16 (u.toNat : Int), .slice a8 os.length cap8, .slice a9 xs.length cap9] := hd 24 (by kernel_rfl)
          have q11 : uu 11 = .bool true := hd 11 (by kernel_rfl)
          refine .inl ⟨wanted_yes rfl (yielded_put (k := 63) (by kernel_rfl) (by kernel_rfl) 83 rfl (by decide) q11), ?_⟩
          generalize hev : Act.eval _ = ev
          have ec : ∀ c, ev (.const c) = c := fun c => by rw [← hev]; rfl
          have ef : ∀ f, ev (.func f) = .func (.func f) #[] #[] := fun f => by rw [← hev]; rfl
          have e69 : ev (.tmp 69) = .int .u16 (fq.toNat : Int) := by rw [← hev]; exact (eval_put (by kernel_rfl) 83 rfl (by decide)).trans q17
          have e72 : ev (.tmp 72) = .int .u16 (fp.toNat : Int) := by rw [← hev]; exact (eval_put (by kernel_rfl) 83 rfl (by decide)).trans q20
          have e75 : ev (.tmp 75) = .int .u32 (sq.toNat : Int) := by rw [← hev]; exact (eval_put (by kernel_rfl) 83 rfl (by decide)).trans q23
          have e76 : ev (.tmp 76) = .agg #[.int .u16 (a.toNat : Int), .int .u16 (b.toNat : Int), .int .u32 (q.toNat : Int), .int .u32 (k.toNat : Int), .int .u8 (r.toNat : Int), .int .u8 (f.toNat : Int), .int .u16 (z.toNat : Int), .int .u16 (u.toNat : Int), .slice a8 os.length cap8, .slice a9 xs.length cap9] := by rw [← hev]; exact (eval_put (by kernel_rfl) 83 rfl (by decide)).trans q24
          clear hev hd q17 q20 q23 q24 q11
          exact .inr ⟨_, _, _, by go_simp, (HR2 W).out, fun e w' he => ⟨_, he.1, rfl, he.2⟩⟩
        · obtain rfl := Option.some.inj hoo
          obtain ⟨L14, A14, c14, M14, B14, d14, q14, HL14, HM14, r14, s14⟩ := hd 14 (by kernel_rfl)
          have q25 : uu 25 = .agg #[.int .u16 (fq.toNat : Int), .int .u16 (fp.toNat : Int), .int .u32 (qh.toNat : Int), .int .u32 (k.toNat : Int), .int .u8 (r.toNat : Int), .int .u8 (f.toNat : Int), .int .u16 (z.toNat : Int), .int .u16 (u.toNat : Int), .slice a8 os.length cap8, .slice a9 xs.length cap9] := hd 25 (by kernel_rfl)
          have q11 : uu 11 = .bool true := hd 11 (by kernel_rfl)
          refine .inl ⟨wanted_yes rfl (yielded_put (k := 63) (by kernel_rfl) (by kernel_rfl) 83 rfl (by decide) q11), ?_⟩
          generalize hev : Act.eval _ = ev
          have ec : ∀ c, ev (.const c) = c := fun c => by rw [← hev]; rfl
          have ef : ∀ f, ev (.func f) = .func (.func f) #[] #[] := fun f => by rw [← hev]; rfl
          have e66 : ev (.tmp 66) = .agg #[.int .u16 (fq.toNat : Int), .int .u16 (fp.toNat : Int), .int .u32 (qh.toNat : Int), .int .u32 (k.toNat : Int), .int .u8 (r.toNat : Int), .int .u8 (f.toNat : Int), .int .u16 (z.toNat : Int), .int .u16 (u.toNat : Int), .slice A14 L14.length c14, .slice B14 M14.length d14] := by rw [← hev]; exact (eval_put (by kernel_rfl) 83 rfl (by decide)).trans q14
          have e77 : ev (.tmp 77) = .agg #[.int .u16 (fq.toNat : Int), .int .u16 (fp.toNat : Int), .int .u32 (qh.toNat : Int), .int .u32 (k.toNat : Int), .int .u8 (r.toNat : Int), .int .u8 (f.toNat : Int), .int .u16 (z.toNat : Int), .int .u16 (u.toNat : Int), .slice a8 os.length cap8, .slice a9 xs.length cap9] := by rw [← hev]; exact (eval_put (by kernel_rfl) 83 rfl (by decide)).trans q25
          clear hev hd q14 q25 q11
          exact .inr ⟨_, _, _, by go_simp, tsame_yes fq fp qh k r f z u _ _ _ _ _ _ _ _ L14 M14 os xs W r14 s14 (R1.next hVW) (R2.next hVW) HL14.out.symm HM14.out.symm, fun e w' he => ⟨_, he.1, rfl, he.2⟩⟩
        · obtain rfl := Option.some.inj hoo
          have q11 : uu 11 = .bool true := hd 11 (by kernel_rfl)
          have q26 : uu 26 = .bool true := hd 26 (by kernel_rfl)
          refine .inl ⟨wanted_none rfl, ?_⟩
          generalize hev : Act.eval _ = ev
          have ec : ∀ c, ev (.const c) = c := fun c => by rw [← hev]; rfl
          have e63 : ev (.tmp 63) = .bool true := by rw [← hev]; exact (eval_put (by kernel_rfl) 83 rfl (by decide)).trans q11
          have e78 : ev (.tmp 78) = .bool true := by rw [← hev]; exact (eval_put (by kernel_rfl) 83 rfl (by decide)).trans q26
          clear hev hd q11 q26
          exact .inl ⟨_, W, by go_simp, rfl, Below.refl _ _⟩
        · obtain rfl := Option.some.inj hoo
          have q27 : uu 27 = .bool true := hd 27 (by kernel_rfl)
          refine .inl ⟨wanted_none rfl, ?_⟩
          generalize hev : Act.eval _ = ev
          have ec : ∀ c, ev (.const c) = c := fun c => by rw [← hev]; rfl
          have e79 : ev (.tmp 79) = .bool true := by rw [← hev]; exact (eval_put (by kernel_rfl) 83 rfl (by decide)).trans q27
          clear hev hd q27
          exact .inl ⟨_, W, by go_simp, rfl, Below.refl _ _⟩
        · obtain rfl := Option.some.inj hoo
          have q28 : uu 28 = .bool true := hd 28 (by kernel_rfl)
          refine .inl ⟨wanted_yes rfl (yielded_put (k := 80) (by kernel_rfl) (by kernel_rfl) 83 rfl (by decide) q28), ?_⟩
          generalize hev : Act.eval _ = ev
          have ec : ∀ c, ev (.const c) = c := fun c => by rw [← hev]; rfl
          have ef : ∀ f, ev (.func f) = .func (.func f) #[] #[] := fun f => by rw [← hev]; rfl
          clear hev hd q28
          exact .inr ⟨_, _, _, by go_simp, lives28_any W, fun e w' he => ⟨_, he.1, rfl, he.2⟩⟩
        · obtain rfl := Option.some.inj hoo
          have q28 : uu 28 = .bool true := hd 28 (by kernel_rfl)
          have q29 : uu 29 = .bool true := hd 29 (by kernel_rfl)
          refine .inl ⟨wanted_none rfl, ?_⟩
          generalize hev : Act.eval _ = ev
          have ec : ∀ c, ev (.const c) = c := fun c => by rw [← hev]; rfl
          have e80 : ev (.tmp 80) = .bool true := by rw [← hev]; exact (eval_put (by kernel_rfl) 83 rfl (by decide)).trans q28
          have e81 : ev (.tmp 81) = .bool true := by rw [← hev]; exact (eval_put (by kernel_rfl) 83 rfl (by decide)).trans q29
          clear hev hd q28 q29
          exact .inl ⟨_, W, by go_simp, rfl, Below.refl _ _⟩
        · obtain rfl := Option.some.inj hoo
          have q30 : uu 30 = .bool true := hd 30 (by kernel_rfl)
          refine .inl ⟨wanted_none rfl, ?_⟩
          generalize hev : Act.eval _ = ev
          have ec : ∀ c, ev (.const c) = c := fun c => by rw [← hev]; rfl
          have e82 : ev (.tmp 82) = .bool true := by rw [← hev]; exact (eval_put (by kernel_rfl) 83 rfl (by decide)).trans q30
          clear hev hd q30
          exact .inl ⟨_, W, by go_simp, rfl, Below.refl _ _⟩
        · simp at hoo
      · intro uu W hVW hall
        have q31 : uu 31 = .bool true := hall 31 (by decide)
        replace hB := hB.trans (hVW.mono hB.size)
        clear hall HS7 hVW
        simp only [putAll, Act.put, Nat.reduceAdd, q31]
        simp only [List.setIfInBounds_toArray, List.set_cons_succ, List.set_cons_zero]
        go_wp2_with fail
        go_ret
        exact ⟨rfl, hB⟩
set_option maxHeartbeats 4000000 in
theorem SpliceApplies_walk (a0_0_0 : Int) (a0_0_1 : Int) (a0_0_2 : Int) (a0_0_3 : Int) (a0_0_4 : Int) (a0_1 : Int) (a0_2 : Int) (a0_3 : Int) (a0_4 : Bool) (a0_5 : Bool) (a0_6 : Int) (a0_7 : Int) (a0_8 : Int) (a1_0_0_0 : Int) (a1_0_0_1 : Int) (a1_0_0_2 : Int) (a1_0_0_3 : Int) (a1_0_0_4 : Int) (a1_0_0_5 : Int) (a1_0_1_0 : Int) (a1_0_1_1 : Int) (a1_0_1_2 : Int) (a1_0_1_3 : Int) (a1_0_1_4 : Int) (a1_0_1_5 : Int) (a1_1_0 : Int) (a1_1_1 : Int) (a1_2_0 : Int) (a1_2_1 : Int) (a1_3 : Int) (a1_4 : Int) (a1_5_0 : Int) (a1_5_1 : Int) (a1_6_0 : Int) (a1_6_1 : Int) (a1_7 : Int) (a1_8 : Int) (a1_9 : Int) (a1_10 : Int) (a1_11 : Int) (a1_12 : Int) (a1_13 : Int) (a1_14 : Int) (a1_15 : Int) (a1_16 : Int) (a1_17 : Int) (a1_18 : Int) (a1_19 : Int) (a1_20 : Int) (a1_21 : Int) (a1_22 : Int) (a1_23 : Int) (a1_24 : Int) (a2 : Int) (a3 : Int) (a4_0 : Int) (a4_1 : Int) (a4_2 : Int) (a4_3 : Int) (a4_4 : Int) (a4_5 : Int) (a4_6 : Int) (a4_7 : Int) (a4_8 : Option Addr) (len4_8 cap4_8 : Nat) (z4_8 : List Int) (a4_9 : Option Addr) (len4_9 cap4_9 : Nat) (z4_9 : List Int) (w : World) (w0_0_0 : (Lit.int .u32 a0_0_0).wf = true) (w0_0_1 : (Lit.int .u32 a0_0_1).wf = true) (w0_0_2 : (Lit.int .u16 a0_0_2).wf = true) (w0_0_3 : (Lit.int .u16 a0_0_3).wf = true) (_w0_0_4 : (Lit.int .u8 a0_0_4).wf = true) (_w0_1 : (Lit.int .i64 a0_1).wf = true) (_w0_2 : (Lit.int .i64 a0_2).wf = true) (_w0_3 : (Lit.int .i64 a0_3).wf = true) (w0_6 : (Lit.int .u16 a0_6).wf = true) (w0_7 : (Lit.int .u32 a0_7).wf = true) (_w0_8 : (Lit.int .u32 a0_8).wf = true) (_w1_0_0_0 : (Lit.int .u8 a1_0_0_0).wf = true) (_w1_0_0_1 : (Lit.int .u8 a1_0_0_1).wf = true) (_w1_0_0_2 : (Lit.int .u8 a1_0_0_2).wf = true) (_w1_0_0_3 : (Lit.int .u8 a1_0_0_3).wf = true) (_w1_0_0_4 : (Lit.int .u8 a1_0_0_4).wf = true) (_w1_0_0_5 : (Lit.int .u8 a1_0_0_5).wf = true) (_w1_0_1_0 : (Lit.int .u8 a1_0_1_0).wf = true) (_w1_0_1_1 : (Lit.int .u8 a1_0_1_1).wf = true) (_w1_0_1_2 : (Lit.int .u8 a1_0_1_2).wf = true) (_w1_0_1_3 : (Lit.int .u8 a1_0_1_3).wf = true) (_w1_0_1_4 : (Lit.int .u8 a1_0_1_4).wf = true) (_w1_0_1_5 : (Lit.int .u8 a1_0_1_5).wf = true) (_w1_1_0 : (Lit.int .u32 a1_1_0).wf = true) (w1_1_1 : (Lit.int .u32 a1_1_1).wf = true) (_w1_2_0 : (Lit.int .i64 a1_2_0).wf = true) (_w1_2_1 : (Lit.int .i64 a1_2_1).wf = true) (_w1_3 : (Lit.int .u32 a1_3).wf = true) (_w1_4 : (Lit.int .i64 a1_4).wf = true) (_w1_5_0 : (Lit.int .u64 a1_5_0).wf = true) (_w1_5_1 : (Lit.int .u64 a1_5_1).wf = true) (_w1_6_0 : (Lit.int .u64 a1_6_0).wf = true) (_w1_6_1 : (Lit.int .u64 a1_6_1).wf = true) (_w1_7 : (Lit.int .u16 a1_7).wf = true) (_w1_8 : (Lit.int .i64 a1_8).wf = true) (_w1_9 : (Lit.int .i64 a1_9).wf = true) (_w1_10 : (Lit.int .i64 a1_10).wf = true) (_w1_11 : (Lit.int .i64 a1_11).wf = true) (_w1_12 : (Lit.int .i64 a1_12).wf = true) (_w1_13 : (Lit.int .i64 a1_13).wf = true) (_w1_14 : (Lit.int .i64 a1_14).wf = true) (_w1_15 : (Lit.int .i64 a1_15).wf = true) (_w1_16 : (Lit.int .i64 a1_16).wf = true) (_w1_17 : (Lit.int .i64 a1_17).wf = true) (_w1_18 : (Lit.int .i64 a1_18).wf = true) (_w1_19 : (Lit.int .i64 a1_19).wf = true) (_w1_20 : (Lit.int .i64 a1_20).wf = true) (_w1_21 : (Lit.int .i64 a1_21).wf = true) (_w1_22 : (Lit.int .i64 a1_22).wf = true) (_w1_23 : (Lit.int .i64 a1_23).wf = true) (_w1_24 : (Lit.int .i64 a1_24).wf = true) (w2 : (Lit.int .u32 a2).wf = true) (w3 : (Lit.int .u16 a3).wf = true) (w4_0 : (Lit.int .u16 a4_0).wf = true) (w4_1 : (Lit.int .u16 a4_1).wf = true) (w4_2 : (Lit.int .u32 a4_2).wf = true) (w4_3 : (Lit.int .u32 a4_3).wf = true) (w4_4 : (Lit.int .u8 a4_4).wf = true) (w4_5 : (Lit.int .u8 a4_5).wf = true) (w4_6 : (Lit.int .u16 a4_6).wf = true) (w4_7 : (Lit.int .u16 a4_7).wf = true) (w4_8 : InRow .u8 w a4_8 len4_8 cap4_8 z4_8) (w4_9 : InRow .u8 w a4_9 len4_9 cap4_9 z4_9) :
    Calls Try.prog 3 #[.agg #[.int .u32 a0_0_0, .int .u32 a0_0_1, .int .u16 a0_0_2, .int .u16 a0_0_3, .int .u8 a0_0_4, .int .i64 a0_1, .int .i64 a0_2, .int .i64 a0_3, .bool a0_4, .bool a0_5, .int .u16 a0_6, .int .u32 a0_7, .int .u32 a0_8], .agg #[.int .u8 a1_0_0_0, .int .u8 a1_0_0_1, .int .u8 a1_0_0_2, .int .u8 a1_0_0_3, .int .u8 a1_0_0_4, .int .u8 a1_0_0_5, .int .u8 a1_0_1_0, .int .u8 a1_0_1_1, .int .u8 a1_0_1_2, .int .u8 a1_0_1_3, .int .u8 a1_0_1_4, .int .u8 a1_0_1_5, .int .u32 a1_1_0, .int .u32 a1_1_1, .int .i64 a1_2_0, .int .i64 a1_2_1, .int .u32 a1_3, .int .i64 a1_4, .int .u64 a1_5_0, .int .u64 a1_5_1, .int .u64 a1_6_0, .int .u64 a1_6_1, .int .u16 a1_7, .int .i64 a1_8, .int .i64 a1_9, .int .i64 a1_10, .int .i64 a1_11, .int .i64 a1_12, .int .i64 a1_13, .int .i64 a1_14, .int .i64 a1_15, .int .i64 a1_16, .int .i64 a1_17, .int .i64 a1_18, .int .i64 a1_19, .int .i64 a1_20, .int .i64 a1_21, .int .i64 a1_22, .int .i64 a1_23, .int .i64 a1_24], .int .u32 a2, .int .u16 a3, .agg #[.int .u16 a4_0, .int .u16 a4_1, .int .u32 a4_2, .int .u32 a4_3, .int .u8 a4_4, .int .u8 a4_5, .int .u16 a4_6, .int .u16 a4_7, .slice a4_8 len4_8 cap4_8, .slice a4_9 len4_9 cap4_9]] w fun e w' => e = .returned (.bool true) ∧ Below w.heap.size w w' := by
  obtain ⟨fs, rfl⟩ := u32_of w0_0_0
  obtain ⟨fd, rfl⟩ := u32_of w0_0_1
  obtain ⟨fp, rfl⟩ := u16_of w0_0_2
  obtain ⟨fq, rfl⟩ := u16_of w0_0_3
  obtain ⟨pt, rfl⟩ := u16_of w0_6
  obtain ⟨sh, rfl⟩ := u32_of w0_7
  obtain ⟨c1, rfl⟩ := u32_of w1_1_1
  obtain ⟨to, rfl⟩ := u32_of w2
  obtain ⟨port, rfl⟩ := u16_of w3
  obtain ⟨a, rfl⟩ := u16_of w4_0
  obtain ⟨b, rfl⟩ := u16_of w4_1
  obtain ⟨q, rfl⟩ := u32_of w4_2
  obtain ⟨k, rfl⟩ := u32_of w4_3
  obtain ⟨r, rfl⟩ := u8_of w4_4
  obtain ⟨f, rfl⟩ := u8_of w4_5
  obtain ⟨z, rfl⟩ := u16_of w4_6
  obtain ⟨u, rfl⟩ := u16_of w4_7
  obtain ⟨os, hol, ho, hlc, hcc, hm⟩ := few_len w4_8 50
  obtain ⟨xs, hxl, hx, hlc2, hcc2, hm2⟩ := few_len w4_9 200
  have HF := fun W => Lib.hid (tfew_any a b q k r f z u a4_8 a4_9 len4_8 cap4_8 len4_9 cap4_9 os.length xs.length W hlc hcc hlc2 hcc2 hm hm2)
  obtain ⟨sq, hsq, -⟩ := neg_of sh
  obtain ⟨zz, ez, hzz⟩ : ∃ a : UInt32, (a.toNat : Int) = 0 ∧ ∀ y : UInt32, y = y + a := ⟨0, rfl, fun y => by simp⟩
  have hz := hzz q
  have hz2 := hzz k
  obtain ⟨kt, hk⟩ : ∃ y, y = k + sh := ⟨_, rfl⟩
  obtain ⟨cs, hcv⟩ : ∃ cs : Array Value, cs = #[.int .u8 a1_0_0_0, .int .u8 a1_0_0_1, .int .u8 a1_0_0_2, .int .u8 a1_0_0_3, .int .u8 a1_0_0_4, .int .u8 a1_0_0_5, .int .u8 a1_0_1_0, .int .u8 a1_0_1_1, .int .u8 a1_0_1_2, .int .u8 a1_0_1_3, .int .u8 a1_0_1_4, .int .u8 a1_0_1_5, .int .u32 a1_1_0, .int .u32 (c1.toNat : Int), .int .i64 a1_2_0, .int .i64 a1_2_1, .int .u32 a1_3, .int .i64 a1_4, .int .u64 a1_5_0, .int .u64 a1_5_1, .int .u64 a1_6_0, .int .u64 a1_6_1, .int .u16 a1_7, .int .i64 a1_8, .int .i64 a1_9, .int .i64 a1_10, .int .i64 a1_11, .int .i64 a1_12, .int .i64 a1_13, .int .i64 a1_14, .int .i64 a1_15, .int .i64 a1_16, .int .i64 a1_17, .int .i64 a1_18, .int .i64 a1_19, .int .i64 a1_20, .int .i64 a1_21, .int .i64 a1_22, .int .i64 a1_23, .int .i64 a1_24] := ⟨_, rfl⟩
  have hcz : cs.size = 40 := by rw [hcv]; rfl
  have hcs : cs.toList[13]? = some (.int .u32 (c1.toNat : Int)) := by rw [hcv]; rfl
  rw [← hcv]
  clear hcv
  have hlast : ∀ kt : UInt32, _ → _ → _ → _ → _ := fun kt h1 h2 h3 h4 => spl_applies fs fd fp fq pt sh (.int .u8 a0_0_4) (.int .i64 a0_1) (.int .i64 a0_2) (.int .i64 a0_3) (.bool a0_4) (.bool a0_5) (.int .u32 a0_8) cs hcz c1 hcs to port a b q k r f z u kt (q + sq) sq a4_8 a4_9 len4_8 len4_9 cap4_8 cap4_9 os xs w ho hx HF (fun W => there_any fs fd fp fq pt sh (.int .u8 a0_0_4) (.int .i64 a0_1) (.int .i64 a0_2) (.int .i64 a0_3) (.bool a0_4) (.bool a0_5) (.int .u32 a0_8) cs c1 hcs to port W) (fun W => here_any fs fd fp fq pt sh (.int .u8 a0_0_4) (.int .i64 a0_1) (.int .i64 a0_2) (.int .i64 a0_3) (.bool a0_4) (.bool a0_5) (.int .u32 a0_8) sq hsq W) (fun W => opp_any sh sq hsq W) h1 h2 h3 h4
  cases hf : hasB f 16
  · have hA1 := fun W h1 h2 => apply_0 c1 to pt port zz sh a b q k r f z u q k hz rfl hf a4_8 a4_9 cap4_8 cap4_9 os xs W h1 h2 (by omega) (by omega)
    have hA2 := fun W h1 h2 => apply_0 fd fs fq fp sq zz a b q k r f z u (q + sq) k rfl rfl hf a4_8 a4_9 cap4_8 cap4_9 os xs W h1 h2 (by omega) (by omega)
    have hR1 := fun W => rapply_0 pt port zz sh a b q k r f z u q k hz rfl hf a4_8 a4_9 cap4_8 cap4_9 os xs W
    have hR2 := fun W => rapply_0 fq fp sq zz a b q k r f z u (q + sq) k rfl rfl hf a4_8 a4_9 cap4_8 cap4_9 os xs W
    simp only [ez] at hA1 hA2 hR1 hR2
    exact hlast k hA1 hA2 hR1 hR2
  · have hA1 := fun W h1 h2 => apply_1 c1 to pt port zz sh a b q k r f z u q kt hz hk hf a4_8 a4_9 cap4_8 cap4_9 os xs W h1 h2 (by omega) (by omega)
    have hA2 := fun W h1 h2 => apply_1 fd fs fq fp sq zz a b q k r f z u (q + sq) k rfl hz2 hf a4_8 a4_9 cap4_8 cap4_9 os xs W h1 h2 (by omega) (by omega)
    have hR1 := fun W => rapply_1 pt port zz sh a b q k r f z u q kt hz hk hf a4_8 a4_9 cap4_8 cap4_9 os xs W
    have hR2 := fun W => rapply_1 fq fp sq zz a b q k r f z u (q + sq) k rfl hz2 hf a4_8 a4_9 cap4_8 cap4_9 os xs W
    simp only [ez] at hA1 hA2 hR1 hR2
    exact hlast kt hA1 hA2 hR1 hR2
end Go.Proofs.Ytggcomociojfoab
