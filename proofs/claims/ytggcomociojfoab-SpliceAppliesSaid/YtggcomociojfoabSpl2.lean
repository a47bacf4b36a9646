/- Contracts of Opposite and of the law's lives; the walk of SpliceBack. -/
import Derived.Test.YtggcomociojfoabSpl1
import Derived.Test.YtggcomociojfoabReg4
namespace Go.Proofs.Ytggcomociojfoab
open Go.RowKit

theorem opp_any (x y : UInt32) (h : (x.toNat + y.toNat) % 4294967296 = 0) (w : World) : Calls Try.prog 10 #[.int .u32 (x.toNat : Int)] w fun e w' => e = .returned (.int .u32 (y.toNat : Int)) ∧ Below w.heap.size w w' := by
  have hx := x.toNat_lt
  have hy := y.toNat_lt
  by_cases h0 : x.toNat = 0
  · have e1 : ((x.toNat : Int) == 0) = true := by simp [h0]
    have e2 : (y.toNat : Int) = 0 := by omega
    rw [e2]
    clear e2 h h0 hx hy
    go_enter Try.func10, Try.ntmps10
    go_wp2_with fail
    go_ret
    exact ⟨rfl, Below.refl _ _⟩
  · have e1 : ((x.toNat : Int) == 0) = false := by simp; omega
    have e2 : IntKind.u32.wrap (4294967295 - (x.toNat : Int)) = 4294967295 - (x.toNat : Int) := by rw [IntKind.wrap_u32]; omega
    have e3 : IntKind.u32.wrap (4294967295 - (x.toNat : Int) + 1) = (y.toNat : Int) := by rw [IntKind.wrap_u32]; omega
    clear h h0 hx hy
    go_enter Try.func10, Try.ntmps10
    go_wp2_with fail
    go_ret
    exact ⟨rfl, Below.refl _ _⟩

set_option maxHeartbeats 4000000 in
theorem lives28_any (w : World) : Calls Try.prog 14 #[] w fun e w' => e = .returned (.bool true) ∧ Below w.heap.size w w' := by
  have H1 : ∀ W, Hid (Calls Try.prog 12 #[.agg #[.int .u32 0, .int .u32 0, .int .u16 0, .int .u16 0, .int .u32 5, .int .u32 6], .agg #[.int .u16 0, .int .u16 0, .int .u32 4294967295, .int .u32 1, .int .u8 0, .int .u8 16, .int .u16 0, .int .u16 0, .slice none 0 0, .slice none 0 0]] W fun e w' => ∃ n1 B1 d1 n2 B2 d2, e = .returned (.agg #[.int .u16 0, .int .u16 0, .int .u32 4, .int .u32 7, .int .u8 0, .int .u8 16, .int .u16 0, .int .u16 0, .slice B1 n1 d1, .slice B2 n2 d2]) ∧ Below W.heap.size W w') := by
    intro W
    obtain ⟨z, ez⟩ : ∃ a : UInt32, (a.toNat : Int) = 0 := ⟨0, rfl⟩
    obtain ⟨y, ey⟩ : ∃ a : UInt16, (a.toNat : Int) = 0 := ⟨0, rfl⟩
    obtain ⟨r, er⟩ : ∃ a : UInt8, (a.toNat : Int) = 0 := ⟨0, rfl⟩
    obtain ⟨f, ef, hf⟩ : ∃ a : UInt8, (a.toNat : Int) = 16 ∧ hasB a 16 = true := ⟨16, rfl, by decide⟩
    obtain ⟨ts, q, q2, e1, e2, e3, hq⟩ : ∃ a b c : UInt32, (a.toNat : Int) = 5 ∧ (b.toNat : Int) = 4294967295 ∧ (c.toNat : Int) = 4 ∧ c = b + a := ⟨5, 4294967295, 4, rfl, rfl, rfl, by decide⟩
    obtain ⟨ta, k, k2, e4, e5, e6, hk⟩ : ∃ a b c : UInt32, (a.toNat : Int) = 6 ∧ (b.toNat : Int) = 1 ∧ (c.toNat : Int) = 7 ∧ c = b + a := ⟨6, 1, 7, rfl, rfl, rfl, by decide⟩
    obtain ⟨l0, hl0⟩ : ∃ l : List UInt8, l.length = 0 := ⟨[], rfl⟩
    have hn : Rd bv W W.heap.size none 0 l0 := by rw [List.eq_nil_of_length_eq_zero hl0]; exact Rd.nil0 _ _ _
    have h := apply_1 z z y y ts ta y y q k r f y y q2 k2 hq hk hf none none 0 0 l0 l0 W hn hn (by omega) (by omega)
    simp only [ez, ey, er, ef, e1, e2, e3, e4, e5, e6, hl0] at h
    refine h.mono ?_
    rintro e w' ⟨L1, B1, d1, L2, B2, d2, rfl, -, -, -, -, hb⟩
    exact ⟨_, _, _, _, _, _, rfl, hb⟩
  go_enter Try.func14, Try.ntmps14
  go_wp2_with fail
  refine (H1 _).out.mono ?_
  rintro e w1 ⟨n1, B1, d1, n2, B2, d2, rfl, hb⟩
  have hB := bnext (Below.refl w.heap.size w) hb
  clear H1 hb
  go_wp2_with fail
  go_ret
  exact ⟨rfl, bnextA hB _⟩

set_option maxRecDepth 4000 in
set_option maxHeartbeats 8000000 in
theorem spl_back (s d : UInt32) (p p2 : UInt16) (ts ta : UInt32) (a b : UInt16) (q k : UInt32) (r f : UInt8) (z u : UInt16) (q2 k2 oq ok : UInt32) (N1 N2 N3 : Nat) (a8 a9 : Option Addr) (len8 len9 cap8 cap9 : Nat) (os xs : List UInt8) (w : World) (H1 : Rd bv w w.heap.size a8 cap8 os) (H2 : Rd bv w w.heap.size a9 cap9 xs)
    (HF : ∀ W, Hid (Calls Try.prog 7 #[.agg #[.int .u16 (a.toNat : Int), .int .u16 (b.toNat : Int), .int .u32 (q.toNat : Int), .int .u32 (k.toNat : Int), .int .u8 (r.toNat : Int), .int .u8 (f.toNat : Int), .int .u16 (z.toNat : Int), .int .u16 (u.toNat : Int), .slice a8 len8 cap8, .slice a9 len9 cap9]] W fun e w' => e = .returned (.agg #[.int .u16 (a.toNat : Int), .int .u16 (b.toNat : Int), .int .u32 (q.toNat : Int), .int .u32 (k.toNat : Int), .int .u8 (r.toNat : Int), .int .u8 (f.toNat : Int), .int .u16 (z.toNat : Int), .int .u16 (u.toNat : Int), .slice a8 os.length cap8, .slice a9 xs.length cap9]) ∧ Below W.heap.size W w'))
    (HA1 : ∀ W, Rd bv W W.heap.size a8 cap8 os → Rd bv W W.heap.size a9 cap9 xs → Hid (Calls Try.prog 12 #[.agg #[.int .u32 (s.toNat : Int), .int .u32 (d.toNat : Int), .int .u16 (p.toNat : Int), .int .u16 (p2.toNat : Int), .int .u32 (ts.toNat : Int), .int .u32 (ta.toNat : Int)], .agg #[.int .u16 (a.toNat : Int), .int .u16 (b.toNat : Int), .int .u32 (q.toNat : Int), .int .u32 (k.toNat : Int), .int .u8 (r.toNat : Int), .int .u8 (f.toNat : Int), .int .u16 (z.toNat : Int), .int .u16 (u.toNat : Int), .slice a8 os.length cap8, .slice a9 xs.length cap9]] W fun e w' => ∃ L1 B1 d1 L2 B2 d2, e = .returned (.agg #[.int .u16 (p.toNat : Int), .int .u16 (p2.toNat : Int), .int .u32 (q2.toNat : Int), .int .u32 (k2.toNat : Int), .int .u8 (r.toNat : Int), .int .u8 (f.toNat : Int), .int .u16 (z.toNat : Int), .int .u16 (u.toNat : Int), .slice B1 L1.length d1, .slice B2 L2.length d2]) ∧ Hid (L1 = os) ∧ Hid (L2 = xs) ∧ Rd bv w' w'.heap.size B1 d1 L1 ∧ Rd bv w' w'.heap.size B2 d2 L2 ∧ Below W.heap.size W w'))
    (HA2 : ∀ B1 d1 B2 d2 (L1 L2 : List UInt8), L1 = os → L2 = xs → ∀ W, Rd bv W W.heap.size B1 d1 L1 → Rd bv W W.heap.size B2 d2 L2 → Hid (Calls Try.prog 12 #[.agg #[.int .u32 0, .int .u32 0, .int .u16 (a.toNat : Int), .int .u16 (b.toNat : Int), .int .u32 (oq.toNat : Int), .int .u32 (ok.toNat : Int)], .agg #[.int .u16 (p.toNat : Int), .int .u16 (p2.toNat : Int), .int .u32 (q2.toNat : Int), .int .u32 (k2.toNat : Int), .int .u8 (r.toNat : Int), .int .u8 (f.toNat : Int), .int .u16 (z.toNat : Int), .int .u16 (u.toNat : Int), .slice B1 L1.length d1, .slice B2 L2.length d2]] W fun e w' => ∃ L1 B1 d1 L2 B2 d2, e = .returned (.agg #[.int .u16 (a.toNat : Int), .int .u16 (b.toNat : Int), .int .u32 (q.toNat : Int), .int .u32 (k.toNat : Int), .int .u8 (r.toNat : Int), .int .u8 (f.toNat : Int), .int .u16 (z.toNat : Int), .int .u16 (u.toNat : Int), .slice B1 L1.length d1, .slice B2 L2.length d2]) ∧ Hid (L1 = os) ∧ Hid (L2 = xs) ∧ Rd bv w' w'.heap.size B1 d1 L1 ∧ Rd bv w' w'.heap.size B2 d2 L2 ∧ Below W.heap.size W w'))
    (HOQ : ∀ W, Hid (Calls Try.prog 10 #[.int .u32 (ts.toNat : Int)] W fun e w' => e = .returned (.int .u32 (oq.toNat : Int)) ∧ Below W.heap.size W w'))
    (HOK : ∀ W, Hid (Calls Try.prog 10 #[.int .u32 (ta.toNat : Int)] W fun e w' => e = .returned (.int .u32 (ok.toNat : Int)) ∧ Below W.heap.size W w'))
    (HN1 : ∀ A1 n1 c1 A2 n c2 W, n = xs.length → Hid (Calls Try.prog 16 #[.agg #[.int .u16 (p.toNat : Int), .int .u16 (p2.toNat : Int), .int .u32 (q2.toNat : Int), .int .u32 (k2.toNat : Int), .int .u8 (r.toNat : Int), .int .u8 (f.toNat : Int), .int .u16 (z.toNat : Int), .int .u16 (u.toNat : Int), .slice A1 n1 c1, .slice A2 n c2]] W fun e w' => e = .returned (.int .u32 (N1 : Int)) ∧ Below W.heap.size W w'))
    (HN2 : ∀ A1 n1 c1 A2 n c2 W, n = xs.length → Hid (Calls Try.prog 16 #[.agg #[.int .u16 (a.toNat : Int), .int .u16 (b.toNat : Int), .int .u32 (q.toNat : Int), .int .u32 (k.toNat : Int), .int .u8 (r.toNat : Int), .int .u8 (f.toNat : Int), .int .u16 (z.toNat : Int), .int .u16 (u.toNat : Int), .slice A1 n1 c1, .slice A2 n c2]] W fun e w' => e = .returned (.int .u32 (N2 : Int)) ∧ Below W.heap.size W w'))
    (HP1 : ∀ A1 n1 c1 A2 n c2 W, n = xs.length → Hid (Calls Try.prog 17 #[.agg #[.int .u16 (p.toNat : Int), .int .u16 (p2.toNat : Int), .int .u32 (q2.toNat : Int), .int .u32 (k2.toNat : Int), .int .u8 (r.toNat : Int), .int .u8 (f.toNat : Int), .int .u16 (z.toNat : Int), .int .u16 (u.toNat : Int), .slice A1 n1 c1, .slice A2 n c2]] W fun e w' => e = .returned (.int .u32 (N3 : Int)) ∧ Below W.heap.size W w'))
    (HP2 : ∀ A1 n1 c1 A2 n c2 W, n = xs.length → Hid (Calls Try.prog 17 #[.agg #[.int .u16 (a.toNat : Int), .int .u16 (b.toNat : Int), .int .u32 (q.toNat : Int), .int .u32 (k.toNat : Int), .int .u8 (r.toNat : Int), .int .u8 (f.toNat : Int), .int .u16 (z.toNat : Int), .int .u16 (u.toNat : Int), .slice A1 n1 c1, .slice A2 n c2]] W fun e w' => e = .returned (.int .u32 (N3 : Int)) ∧ Below W.heap.size W w'))
    (HW : Hid (IntKind.u32.wrap ((N2 : Int) + (ts.toNat : Int)) = (N1 : Int))) :
    Calls Try.prog 4 #[.agg #[.int .u32 (s.toNat : Int), .int .u32 (d.toNat : Int), .int .u16 (p.toNat : Int), .int .u16 (p2.toNat : Int), .int .u32 (ts.toNat : Int), .int .u32 (ta.toNat : Int)], .agg #[.int .u16 (a.toNat : Int), .int .u16 (b.toNat : Int), .int .u32 (q.toNat : Int), .int .u32 (k.toNat : Int), .int .u8 (r.toNat : Int), .int .u8 (f.toNat : Int), .int .u16 (z.toNat : Int), .int .u16 (u.toNat : Int), .slice a8 len8 cap8, .slice a9 len9 cap9]] w fun e w' => e = .returned (.bool true) ∧ Below w.heap.size w w' := by
  go_enter Try.func4, Try.ntmps4
  go_wp2_with fail
  refine (HF _).out.mono ?_
  rintro e w_1 ⟨rfl, hbel⟩
  have hB := bnext (bnextA (bnextA (Below.refl w.heap.size w) (.cells #[.int .u32 (s.toNat : Int), .int .u32 (d.toNat : Int), .int .u16 (p.toNat : Int), .int .u16 (p2.toNat : Int), .int .u32 (ts.toNat : Int), .int .u32 (ta.toNat : Int)] 43)) (.cells #[.int .u16 (a.toNat : Int), .int .u16 (b.toNat : Int), .int .u32 (q.toNat : Int), .int .u32 (k.toNat : Int), .int .u8 (r.toNat : Int), .int .u8 (f.toNat : Int), .int .u16 (z.toNat : Int), .int .u16 (u.toNat : Int), .slice a8 len8 cap8, .slice a9 len9 cap9] 40)) hbel
  have KT := ((Blk.new w #[.int .u32 (s.toNat : Int), .int .u32 (d.toNat : Int), .int .u16 (p.toNat : Int), .int .u16 (p2.toNat : Int), .int .u32 (ts.toNat : Int), .int .u32 (ta.toNat : Int)] 43).alloc (.cells #[.int .u16 (a.toNat : Int), .int .u16 (b.toNat : Int), .int .u32 (q.toNat : Int), .int .u32 (k.toNat : Int), .int .u8 (r.toNat : Int), .int .u8 (f.toNat : Int), .int .u16 (z.toNat : Int), .int .u16 (u.toNat : Int), .slice a8 len8 cap8, .slice a9 len9 cap9] 40)).next hbel
  have KS : Blk w_1 (w.heap.size + 1) [.int .u16 (a.toNat : Int), .int .u16 (b.toNat : Int), .int .u32 (q.toNat : Int), .int .u32 (k.toNat : Int), .int .u8 (r.toNat : Int), .int .u8 (f.toNat : Int), .int .u16 (z.toNat : Int), .int .u16 (u.toNat : Int), .slice a8 len8 cap8, .slice a9 len9 cap9] 40 := by
    have := (Blk.new (w.alloc (.cells #[.int .u32 (s.toNat : Int), .int .u32 (d.toNat : Int), .int .u16 (p.toNat : Int), .int .u16 (p2.toNat : Int), .int .u32 (ts.toNat : Int), .int .u32 (ta.toNat : Int)] 43)) #[.int .u16 (a.toNat : Int), .int .u16 (b.toNat : Int), .int .u32 (q.toNat : Int), .int .u32 (k.toNat : Int), .int .u8 (r.toNat : Int), .int .u8 (f.toNat : Int), .int .u16 (z.toNat : Int), .int .u16 (u.toNat : Int), .slice a8 len8 cap8, .slice a9 len9 cap9] 40).next hbel
    simpa using this
  clear hbel HF
  obtain ⟨t0, t1, t2, t3, t4, t5, -⟩ := KT.get6
  obtain ⟨x0, x1, x2, x3, x4, x5, x6, x7, x8, x9, y0, y1, y2, y3, y4, y5, y6, y7, y8, y9⟩ := KS.get10
  have hle : w.heap.size ≤ w.heap.size + 1 := Nat.le_succ _
  have hB1 := bset10 hB hle (.int .u16 (a.toNat : Int)) (.int .u16 (b.toNat : Int)) (.int .u32 (q.toNat : Int)) (.int .u32 (k.toNat : Int)) (.int .u8 (r.toNat : Int)) (.int .u8 (f.toNat : Int)) (.int .u16 (z.toNat : Int)) (.int .u16 (u.toNat : Int)) (.slice a8 os.length cap8) (.slice a9 xs.length cap9)
  have KS1 := KS.set10 (u0 := .int .u16 (a.toNat : Int)) (u1 := .int .u16 (b.toNat : Int)) (u2 := .int .u32 (q.toNat : Int)) (u3 := .int .u32 (k.toNat : Int)) (u4 := .int .u8 (r.toNat : Int)) (u5 := .int .u8 (f.toNat : Int)) (u6 := .int .u16 (z.toNat : Int)) (u7 := .int .u16 (u.toNat : Int)) (u8 := .slice a8 os.length cap8) (u9 := .slice a9 xs.length cap9)
  have KT1 := KT.oth10 (g' := w.heap.size + 1) (by omega) (u0 := .int .u16 (a.toNat : Int)) (u1 := .int .u16 (b.toNat : Int)) (u2 := .int .u32 (q.toNat : Int)) (u3 := .int .u32 (k.toNat : Int)) (u4 := .int .u8 (r.toNat : Int)) (u5 := .int .u8 (f.toNat : Int)) (u6 := .int .u16 (z.toNat : Int)) (u7 := .int .u16 (u.toNat : Int)) (u8 := .slice a8 os.length cap8) (u9 := .slice a9 xs.length cap9)
  simp only [setAll10] at hB1 KS1 KT1
  clear hB KS KT
  go_wp2_with fail
  refine (HA1 _ (H1.next hB1) (H2.next hB1)).out.mono ?_
  rintro e w_2 ⟨L1, B1, d1, L2, B2, d2, rfl, HL1, HL2, rl1, rl2, hbel⟩
  have hB2 := bnext hB1 hbel
  have KS2 := KS1.next hbel
  have KT2 := KT1.next hbel
  clear hbel HA1 KS1 KT1 hB1 t0 t1 t2 t3 t4 t5 x0 x1 x2 x3 x4 x5 x6 x7 x8 x9 y0 y1 y2 y3 y4 y5 y6 y7 y8 y9
  have KX := Blk.new w_2 #[.int .u16 (p.toNat : Int), .int .u16 (p2.toNat : Int), .int .u32 (q2.toNat : Int), .int .u32 (k2.toNat : Int), .int .u8 (r.toNat : Int), .int .u8 (f.toNat : Int), .int .u16 (z.toNat : Int), .int .u16 (u.toNat : Int), .slice B1 L1.length d1, .slice B2 L2.length d2] 40
  have hBA := bnextA (Below.refl w_2.heap.size w_2) (.cells #[.int .u16 (p.toNat : Int), .int .u16 (p2.toNat : Int), .int .u32 (q2.toNat : Int), .int .u32 (k2.toNat : Int), .int .u8 (r.toNat : Int), .int .u8 (f.toNat : Int), .int .u16 (z.toNat : Int), .int .u16 (u.toNat : Int), .slice B1 L1.length d1, .slice B2 L2.length d2] 40)
  have KS := KS2.next hBA
  have KT := KT2.next hBA
  replace rl1 := rl1.next hBA
  replace rl2 := rl2.next hBA
  have hB := bnext hB2 hBA
  clear hBA KS2 KT2 hB2
  go_wp2_with fail
  have R1 := H1.next hB
  have R2 := H2.next hB
  clear H1 H2
  generalize w_2.alloc (.cells #[.int .u16 (p.toNat : Int), .int .u16 (p2.toNat : Int), .int .u32 (q2.toNat : Int), .int .u32 (k2.toNat : Int), .int .u8 (r.toNat : Int), .int .u8 (f.toNat : Int), .int .u16 (z.toNat : Int), .int .u16 (u.toNat : Int), .slice B1 L1.length d1, .slice B2 L2.length d2] 40) = V at *
  generalize w_2.heap.size = G5 at *
  have HS3 : ∀ W, Below V.heap.size V W → (W.cell? ⟨w.heap.size + 1, 0, none⟩ = some (.int .u16 (a.toNat : Int)) ∧ W.cell? ⟨w.heap.size + 1, 1, none⟩ = some (.int .u16 (b.toNat : Int)) ∧ W.cell? ⟨w.heap.size, 4, none⟩ = some (.int .u32 (ts.toNat : Int)) ∧ W.cell? ⟨w.heap.size, 5, none⟩ = some (.int .u32 (ta.toNat : Int))) := by
    intro W h
    exact ⟨(KS.next h).cell 0, (KS.next h).cell 1, (KT.next h).cell 4, (KT.next h).cell 5⟩
  refine region_put_last (by kernel_rfl) (by kernel_rfl) (by kernel_rfl) 55 rfl (by kernel_rfl) V (fun i v W => match i with
      | 0 => v = .pointer (some ⟨w.heap.size + 1, 0, none⟩)
      | 1 => v = .int .u16 (a.toNat : Int)
      | 2 => v = .pointer (some ⟨w.heap.size + 1, 1, none⟩)
      | 3 => v = .int .u16 (b.toNat : Int)
      | 4 => v = .pointer (some ⟨w.heap.size, 4, none⟩)
      | 5 => v = .int .u32 (ts.toNat : Int)
      | 6 => v = .int .u32 (oq.toNat : Int)
      | 7 => v = .pointer (some ⟨w.heap.size, 5, none⟩)
      | 8 => v = .int .u32 (ta.toNat : Int)
      | 9 => v = .int .u32 (ok.toNat : Int)
      | 10 => v = .agg #[.int .u32 0, .int .u32 0, .int .u16 (a.toNat : Int), .int .u16 (b.toNat : Int), .int .u32 (oq.toNat : Int), .int .u32 (ok.toNat : Int)]
      | 11 => ∃ g, v = .pointer (some ⟨g, 0, none⟩) ∧ V.heap.size ≤ g ∧ Blk W g [.int .u32 0, .int .u32 0, .int .u16 0, .int .u16 0, .int .u32 0, .int .u32 0] 43
      | _ => True) (Below.refl _ _) 12 rfl (by kernel_rfl) (by intro o h; obtain rfl := Option.some.inj h; rfl) ?_ ?_ ?_
  · intro i v W W' h hb
    match i, h with
    | 0, h => exact h
    | 1, h => exact h
    | 2, h => exact h
    | 3, h => exact h
    | 4, h => exact h
    | 5, h => exact h
    | 6, h => exact h
    | 7, h => exact h
    | 8, h => exact h
    | 9, h => exact h
    | 10, h => exact h
    | 11, h => obtain ⟨g, h1, h2, h3⟩ := h; exact ⟨g, h1, h2, h3.next hb⟩
    | _ + 12, _ => trivial
  · intro i oo uu W him hoo hVW hd
    rcases i with _|_|_|_|_|_|_|_|_|_|_|_|i
    · obtain rfl := Option.some.inj hoo
      refine .inl ⟨wanted_none rfl, ?_⟩
      generalize hev : Act.eval _ = ev
      have ec : ∀ c, ev (.const c) = c := fun c => by rw [← hev]; rfl
      have e3 : ev (.tmp 3) = .pointer (some ⟨w.heap.size + 1, 0, none⟩) := by rw [← hev]; exact eval_old (by kernel_rfl) 55 rfl (by decide) rfl
      clear hev hd
      exact .inl ⟨_, W, by go_simp, rfl, Below.refl _ _⟩
    · obtain rfl := Option.some.inj hoo
      have q0 : uu 0 = .pointer (some ⟨w.heap.size + 1, 0, none⟩) := hd 0 (by kernel_rfl)
      refine .inl ⟨wanted_none rfl, ?_⟩
      generalize hev : Act.eval _ = ev
      have ec : ∀ c, ev (.const c) = c := fun c => by rw [← hev]; rfl
      have e12 : ev (.tmp 12) = .pointer (some ⟨w.heap.size + 1, 0, none⟩) := by rw [← hev]; exact (eval_put (by kernel_rfl) 55 rfl (by decide)).trans q0
      clear hev hd q0
      obtain ⟨cc0, cc1, cc2, cc3⟩ := HS3 W hVW
      exact .inl ⟨_, W, by go_simp, rfl, Below.refl _ _⟩
    · obtain rfl := Option.some.inj hoo
      refine .inl ⟨wanted_none rfl, ?_⟩
      generalize hev : Act.eval _ = ev
      have ec : ∀ c, ev (.const c) = c := fun c => by rw [← hev]; rfl
      have e3 : ev (.tmp 3) = .pointer (some ⟨w.heap.size + 1, 0, none⟩) := by rw [← hev]; exact eval_old (by kernel_rfl) 55 rfl (by decide) rfl
      clear hev hd
      exact .inl ⟨_, W, by go_simp, rfl, Below.refl _ _⟩
    · obtain rfl := Option.some.inj hoo
      have q2 : uu 2 = .pointer (some ⟨w.heap.size + 1, 1, none⟩) := hd 2 (by kernel_rfl)
      refine .inl ⟨wanted_none rfl, ?_⟩
      generalize hev : Act.eval _ = ev
      have ec : ∀ c, ev (.const c) = c := fun c => by rw [← hev]; rfl
      have e14 : ev (.tmp 14) = .pointer (some ⟨w.heap.size + 1, 1, none⟩) := by rw [← hev]; exact (eval_put (by kernel_rfl) 55 rfl (by decide)).trans q2
      clear hev hd q2
      obtain ⟨cc0, cc1, cc2, cc3⟩ := HS3 W hVW
      exact .inl ⟨_, W, by go_simp, rfl, Below.refl _ _⟩
    · obtain rfl := Option.some.inj hoo
      refine .inl ⟨wanted_none rfl, ?_⟩
      generalize hev : Act.eval _ = ev
      have ec : ∀ c, ev (.const c) = c := fun c => by rw [← hev]; rfl
      have e2 : ev (.tmp 2) = .pointer (some ⟨w.heap.size, 0, none⟩) := by rw [← hev]; exact eval_old (by kernel_rfl) 55 rfl (by decide) rfl
      clear hev hd
      exact .inl ⟨_, W, by go_simp, rfl, Below.refl _ _⟩
    · obtain rfl := Option.some.inj hoo
      have q4 : uu 4 = .pointer (some ⟨w.heap.size, 4, none⟩) := hd 4 (by kernel_rfl)
      refine .inl ⟨wanted_none rfl, ?_⟩
      generalize hev : Act.eval _ = ev
      have ec : ∀ c, ev (.const c) = c := fun c => by rw [← hev]; rfl
      have e16 : ev (.tmp 16) = .pointer (some ⟨w.heap.size, 4, none⟩) := by rw [← hev]; exact (eval_put (by kernel_rfl) 55 rfl (by decide)).trans q4
      clear hev hd q4
      obtain ⟨cc0, cc1, cc2, cc3⟩ := HS3 W hVW
      exact .inl ⟨_, W, by go_simp, rfl, Below.refl _ _⟩
    · obtain rfl := Option.some.inj hoo
      have q5 : uu 5 = .int .u32 (ts.toNat : Int) := hd 5 (by kernel_rfl)
      refine .inl ⟨wanted_none rfl, ?_⟩
      generalize hev : Act.eval _ = ev
      have ec : ∀ c, ev (.const c) = c := fun c => by rw [← hev]; rfl
      have ef : ∀ f, ev (.func f) = .func (.func f) #[] #[] := fun f => by rw [← hev]; rfl
      have e17 : ev (.tmp 17) = .int .u32 (ts.toNat : Int) := by rw [← hev]; exact (eval_put (by kernel_rfl) 55 rfl (by decide)).trans q5
      clear hev hd q5
      exact .inr ⟨_, _, _, by go_simp, (HOQ W).out, fun e w' he => ⟨_, he.1, rfl, he.2⟩⟩
    · obtain rfl := Option.some.inj hoo
      refine .inl ⟨wanted_none rfl, ?_⟩
      generalize hev : Act.eval _ = ev
      have ec : ∀ c, ev (.const c) = c := fun c => by rw [← hev]; rfl
      have e2 : ev (.tmp 2) = .pointer (some ⟨w.heap.size, 0, none⟩) := by rw [← hev]; exact eval_old (by kernel_rfl) 55 rfl (by decide) rfl
      clear hev hd
      exact .inl ⟨_, W, by go_simp, rfl, Below.refl _ _⟩
    · obtain rfl := Option.some.inj hoo
      have q7 : uu 7 = .pointer (some ⟨w.heap.size, 5, none⟩) := hd 7 (by kernel_rfl)
      refine .inl ⟨wanted_none rfl, ?_⟩
      generalize hev : Act.eval _ = ev
      have ec : ∀ c, ev (.const c) = c := fun c => by rw [← hev]; rfl
      have e19 : ev (.tmp 19) = .pointer (some ⟨w.heap.size, 5, none⟩) := by rw [← hev]; exact (eval_put (by kernel_rfl) 55 rfl (by decide)).trans q7
      clear hev hd q7
      obtain ⟨cc0, cc1, cc2, cc3⟩ := HS3 W hVW
      exact .inl ⟨_, W, by go_simp, rfl, Below.refl _ _⟩
    · obtain rfl := Option.some.inj hoo
      have q8 : uu 8 = .int .u32 (ta.toNat : Int) := hd 8 (by kernel_rfl)
      refine .inl ⟨wanted_none rfl, ?_⟩
      generalize hev : Act.eval _ = ev
      have ec : ∀ c, ev (.const c) = c := fun c => by rw [← hev]; rfl
      have ef : ∀ f, ev (.func f) = .func (.func f) #[] #[] := fun f => by rw [← hev]; rfl
      have e20 : ev (.tmp 20) = .int .u32 (ta.toNat : Int) := by rw [← hev]; exact (eval_put (by kernel_rfl) 55 rfl (by decide)).trans q8
      clear hev hd q8
      exact .inr ⟨_, _, _, by go_simp, (HOK W).out, fun e w' he => ⟨_, he.1, rfl, he.2⟩⟩
    · obtain rfl := Option.some.inj hoo
      have q1 : uu 1 = .int .u16 (a.toNat : Int) := hd 1 (by kernel_rfl)
      have q3 : uu 3 = .int .u16 (b.toNat : Int) := hd 3 (by kernel_rfl)
      have q6 : uu 6 = .int .u32 (oq.toNat : Int) := hd 6 (by kernel_rfl)
      have q9 : uu 9 = .int .u32 (ok.toNat : Int) := hd 9 (by kernel_rfl)
      refine .inl ⟨wanted_none rfl, ?_⟩
      generalize hev : Act.eval _ = ev
      have ec : ∀ c, ev (.const c) = c := fun c => by rw [← hev]; rfl
      have e13 : ev (.tmp 13) = .int .u16 (a.toNat : Int) := by rw [← hev]; exact (eval_put (by kernel_rfl) 55 rfl (by decide)).trans q1
      have e15 : ev (.tmp 15) = .int .u16 (b.toNat : Int) := by rw [← hev]; exact (eval_put (by kernel_rfl) 55 rfl (by decide)).trans q3
      have e18 : ev (.tmp 18) = .int .u32 (oq.toNat : Int) := by rw [← hev]; exact (eval_put (by kernel_rfl) 55 rfl (by decide)).trans q6
      have e21 : ev (.tmp 21) = .int .u32 (ok.toNat : Int) := by rw [← hev]; exact (eval_put (by kernel_rfl) 55 rfl (by decide)).trans q9
      clear hev hd q1 q3 q6 q9
      exact .inl ⟨_, W, by go_simp, rfl, Below.refl _ _⟩
    · obtain rfl := Option.some.inj hoo
      refine .inl ⟨wanted_none rfl, ?_⟩
      generalize hev : Act.eval _ = ev
      have ec : ∀ c, ev (.const c) = c := fun c => by rw [← hev]; rfl
      clear hev hd
      exact .inl ⟨_, W.alloc (.cells #[.int .u32 0, .int .u32 0, .int .u16 0, .int .u16 0, .int .u32 0, .int .u32 0] 43), by go_simp, ⟨W.heap.size, rfl, hVW.size, Blk.new W #[.int .u32 0, .int .u32 0, .int .u16 0, .int .u16 0, .int .u32 0, .int .u32 0] 43⟩, bnextA (Below.refl _ _) _⟩
    · omega
  · intro oo uu W hoo hVW hall
    obtain rfl := Option.some.inj hoo
    obtain ⟨g11, q11, hle11, hbk11⟩ := hall 11 (by decide)
    have q10 : uu 10 = .agg #[.int .u32 0, .int .u32 0, .int .u16 (a.toNat : Int), .int .u16 (b.toNat : Int), .int .u32 (oq.toNat : Int), .int .u32 (ok.toNat : Int)] := hall 10 (by decide)
    refine ⟨wanted_none rfl, ?_⟩
    generalize hev : Act.eval _ = ev
    have ec : ∀ c, ev (.const c) = c := fun c => by rw [← hev]; rfl
    have e6 : ev (.tmp 6) = .pointer (some ⟨g11, 0, none⟩) := by rw [← hev]; exact (eval_put (by kernel_rfl) 55 rfl (by decide)).trans q11
    have e22 : ev (.tmp 22) = .agg #[.int .u32 0, .int .u32 0, .int .u16 (a.toNat : Int), .int .u16 (b.toNat : Int), .int .u32 (oq.toNat : Int), .int .u32 (ok.toNat : Int)] := by rw [← hev]; exact (eval_put (by kernel_rfl) 55 rfl (by decide)).trans q10
    clear hev hall
    obtain ⟨m0, m1, m2, m3, m4, m5, m6, m7, m8, m9, m10, m11⟩ := hbk11.get6
    refine ⟨_, by (go_simp <;> rfl), ?_⟩
    simp only [putAll, Act.put, Nat.reduceAdd, q11]
    simp only [List.setIfInBounds_toArray, List.set_cons_succ, List.set_cons_zero]
    have hBV := bset6 (hB.trans (hVW.mono hB.size)) (Nat.le_trans hB.size hle11) (.int .u32 0) (.int .u32 0) (.int .u16 (a.toNat : Int)) (.int .u16 (b.toNat : Int)) (.int .u32 (oq.toNat : Int)) (.int .u32 (ok.toNat : Int))
    have KU := hbk11.set6 (u0 := .int .u32 0) (u1 := .int .u32 0) (u2 := .int .u16 (a.toNat : Int)) (u3 := .int .u16 (b.toNat : Int)) (u4 := .int .u32 (oq.toNat : Int)) (u5 := .int .u32 (ok.toNat : Int))
    have n0 : w.heap.size ≠ g11 := by have := KT.lt; omega
    have n1 : w.heap.size + 1 ≠ g11 := by have := KS.lt; omega
    have n2 : G5 ≠ g11 := by have := KX.lt; omega
    have hBU := bset6 (B := V.heap.size) hVW hle11 (.int .u32 0) (.int .u32 0) (.int .u16 (a.toNat : Int)) (.int .u16 (b.toNat : Int)) (.int .u32 (oq.toNat : Int)) (.int .u32 (ok.toNat : Int))
    replace KT := KT.next hBU
    replace KS := KS.next hBU
    replace KX := KX.next hBU
    replace R1 := R1.next hBU
    replace R2 := R2.next hBU
    replace rl1 := rl1.next hBU
    replace rl2 := rl2.next hBU
    simp only [setAll6] at hBV KU KT KS KX R1 R2 rl1 rl2
    clear HS3 hB hVW hBU HOQ HOK
    generalize ((((((W.setCell ⟨g11, 0, none⟩ (.int .u32 0)).setCell ⟨g11, 1, none⟩ (.int .u32 0)).setCell ⟨g11, 2, none⟩ (.int .u16 (a.toNat : Int))).setCell ⟨g11, 3, none⟩ (.int .u16 (b.toNat : Int))).setCell ⟨g11, 4, none⟩ (.int .u32 (oq.toNat : Int))).setCell ⟨g11, 5, none⟩ (.int .u32 (ok.toNat : Int))) = V2 at *
    clear hbk11 hle11 q11
    generalize g11 = G6 at *
    have hB := hBV
    have HS4 : ∀ W, Below V2.heap.size V2 W → (W.cell? ⟨w.heap.size + 1, 9, none⟩ = some (.slice a9 xs.length cap9) ∧ W.cell? ⟨G5, 9, none⟩ = some (.slice B2 L2.length d2) ∧ W.cell? ⟨w.heap.size, 4, none⟩ = some (.int .u32 (ts.toNat : Int))) := by
      intro W h
      exact ⟨(KS.next h).cell 9, (KX.next h).cell 9, (KT.next h).cell 4⟩
    go_wp2_with fail
    refine region_put (by kernel_rfl) (by kernel_rfl) (by kernel_rfl) 55 rfl (by kernel_rfl) V2 (fun i v W => match i with
        | 0 => v = .agg #[.int .u32 0, .int .u32 0, .int .u16 (a.toNat : Int), .int .u16 (b.toNat : Int), .int .u32 (oq.toNat : Int), .int .u32 (ok.toNat : Int)]
        | 1 => v = .agg #[.int .u16 (p.toNat : Int), .int .u16 (p2.toNat : Int), .int .u32 (q2.toNat : Int), .int .u32 (k2.toNat : Int), .int .u8 (r.toNat : Int), .int .u8 (f.toNat : Int), .int .u16 (z.toNat : Int), .int .u16 (u.toNat : Int), .slice B1 L1.length d1, .slice B2 L2.length d2]
        | 2 => ∃ L A c M B d, v = .agg #[.int .u16 (a.toNat : Int), .int .u16 (b.toNat : Int), .int .u32 (q.toNat : Int), .int .u32 (k.toNat : Int), .int .u8 (r.toNat : Int), .int .u8 (f.toNat : Int), .int .u16 (z.toNat : Int), .int .u16 (u.toNat : Int), .slice A L.length c, .slice B M.length d] ∧ Hid (L = os) ∧ Hid (M = xs) ∧ Rd bv W W.heap.size A c L ∧ Rd bv W W.heap.size B d M
        | 3 => v = .agg #[.int .u16 (a.toNat : Int), .int .u16 (b.toNat : Int), .int .u32 (q.toNat : Int), .int .u32 (k.toNat : Int), .int .u8 (r.toNat : Int), .int .u8 (f.toNat : Int), .int .u16 (z.toNat : Int), .int .u16 (u.toNat : Int), .slice a8 os.length cap8, .slice a9 xs.length cap9]
        | 4 => v = .bool true
        | 5 => v = .bool true
        | 6 => v = .pointer (some ⟨G5, 9, none⟩)
        | 7 => v = .slice B2 L2.length d2
        | 8 => v = .pointer (some ⟨w.heap.size + 1, 9, none⟩)
        | 9 => v = .slice a9 xs.length cap9
        | 10 => v = .bool true
        | 11 => v = .bool true
        | 12 => v = .bool true
        | 13 => v = .agg #[.int .u16 (p.toNat : Int), .int .u16 (p2.toNat : Int), .int .u32 (q2.toNat : Int), .int .u32 (k2.toNat : Int), .int .u8 (r.toNat : Int), .int .u8 (f.toNat : Int), .int .u16 (z.toNat : Int), .int .u16 (u.toNat : Int), .slice B1 L1.length d1, .slice B2 L2.length d2]
        | 14 => v = .int .u32 (N1 : Int)
        | 15 => v = .agg #[.int .u16 (a.toNat : Int), .int .u16 (b.toNat : Int), .int .u32 (q.toNat : Int), .int .u32 (k.toNat : Int), .int .u8 (r.toNat : Int), .int .u8 (f.toNat : Int), .int .u16 (z.toNat : Int), .int .u16 (u.toNat : Int), .slice a8 os.length cap8, .slice a9 xs.length cap9]
        | 16 => v = .int .u32 (N2 : Int)
        | 17 => v = .pointer (some ⟨w.heap.size, 4, none⟩)
        | 18 => v = .int .u32 (ts.toNat : Int)
        | 19 => v = .int .u32 (N1 : Int)
        | 20 => v = .bool true
        | 21 => v = .bool true
        | 22 => v = .bool true
        | 23 => v = .agg #[.int .u16 (p.toNat : Int), .int .u16 (p2.toNat : Int), .int .u32 (q2.toNat : Int), .int .u32 (k2.toNat : Int), .int .u8 (r.toNat : Int), .int .u8 (f.toNat : Int), .int .u16 (z.toNat : Int), .int .u16 (u.toNat : Int), .slice B1 L1.length d1, .slice B2 L2.length d2]
        | 24 => v = .int .u32 (N3 : Int)
        | 25 => v = .agg #[.int .u16 (a.toNat : Int), .int .u16 (b.toNat : Int), .int .u32 (q.toNat : Int), .int .u32 (k.toNat : Int), .int .u8 (r.toNat : Int), .int .u8 (f.toNat : Int), .int .u16 (z.toNat : Int), .int .u16 (u.toNat : Int), .slice a8 os.length cap8, .slice a9 xs.length cap9]
        | 26 => v = .int .u32 (N3 : Int)
        | 27 => v = .bool true
        | 28 => v = .bool true
        | 29 => v = .bool true
        | 30 => v = .bool true
        | 31 => v = .bool true
        | 32 => v = .bool true
        | _ => True) (Below.refl _ _) ?_ ?_ ?_
    · intro i v W W' h hb
      match i, h with
      | 0, h => exact h
      | 1, h => exact h
      | 2, h => obtain ⟨L, A, c, M, B, d, h1, h2, h3, h4, h5⟩ := h; exact ⟨L, A, c, M, B, d, h1, h2, h3, h4.next hb, h5.next hb⟩
      | 3, h => exact h
      | 4, h => exact h
      | 5, h => exact h
      | 6, h => exact h
      | 7, h => exact h
      | 8, h => exact h
      | 9, h => exact h
      | 10, h => exact h
      | 11, h => exact h
      | 12, h => exact h
      | 13, h => exact h
      | 14, h => exact h
      | 15, h => exact h
      | 16, h => exact h
      | 17, h => exact h
      | 18, h => exact h
      | 19, h => exact h
      | 20, h => exact h
      | 21, h => exact h
      | 22, h => exact h
      | 23, h => exact h
      | 24, h => exact h
      | 25, h => exact h
      | 26, h => exact h
      | 27, h => exact h
      | 28, h => exact h
      | 29, h => exact h
      | 30, h => exact h
      | 31, h => exact h
      | 32, h => exact h
      | _ + 33, _ => trivial
    · intro i o uu W hoo hVW hd
      rcases i with _|_|_|_|_|_|_|_|_|_|_|_|_|_|_|_|_|_|_|_|_|_|_|_|_|_|_|_|_|_|_|_|_|i
      · obtain rfl := Option.some.inj hoo
        refine .inl ⟨wanted_none rfl, ?_⟩
        generalize hev : Act.eval _ = ev
        have ec : ∀ c, ev (.const c) = c := fun c => by rw [← hev]; rfl
        have e6 : ev (.tmp 6) = .pointer (some ⟨G6, 0, none⟩) := by rw [← hev]; exact eval_old (by kernel_rfl) 55 rfl (by decide) rfl
        clear hev hd
        exact .inl ⟨_, W, load_blk Try.underlying43 (by kernel_rfl) (KU.next hVW) rfl e6, rfl, Below.refl _ _⟩
      · obtain rfl := Option.some.inj hoo
        refine .inl ⟨wanted_none rfl, ?_⟩
        generalize hev : Act.eval _ = ev
        have ec : ∀ c, ev (.const c) = c := fun c => by rw [← hev]; rfl
        have e5 : ev (.tmp 5) = .pointer (some ⟨G5, 0, none⟩) := by rw [← hev]; exact eval_old (by kernel_rfl) 55 rfl (by decide) rfl
        clear hev hd
        exact .inl ⟨_, W, load_blk Try.underlying40 (by kernel_rfl) (KX.next hVW) rfl e5, rfl, Below.refl _ _⟩
      · obtain rfl := Option.some.inj hoo
        have q0 : uu 0 = .agg #[.int .u32 0, .int .u32 0, .int .u16 (a.toNat : Int), .int .u16 (b.toNat : Int), .int .u32 (oq.toNat : Int), .int .u32 (ok.toNat : Int)] := hd 0 (by kernel_rfl)
        have q1 : uu 1 = .agg #[.int .u16 (p.toNat : Int), .int .u16 (p2.toNat : Int), .int .u32 (q2.toNat : Int), .int .u32 (k2.toNat : Int), .int .u8 (r.toNat : Int), .int .u8 (f.toNat : Int), .int .u16 (z.toNat : Int), .int .u16 (u.toNat : Int), .slice B1 L1.length d1, .slice B2 L2.length d2] := hd 1 (by kernel_rfl)
        refine .inl ⟨wanted_none rfl, ?_⟩
        generalize hev : Act.eval _ = ev
        have ec : ∀ c, ev (.const c) = c := fun c => by rw [← hev]; rfl
        have ef : ∀ f, ev (.func f) = .func (.func f) #[] #[] := fun f => by rw [← hev]; rfl
        have e23 : ev (.tmp 23) = .agg #[.int .u32 0, .int .u32 0, .int .u16 (a.toNat : Int), .int .u16 (b.toNat : Int), .int .u32 (oq.toNat : Int), .int .u32 (ok.toNat : Int)] := by rw [← hev]; exact (eval_put (by kernel_rfl) 55 rfl (by decide)).trans q0
        have e24 : ev (.tmp 24) = .agg #[.int .u16 (p.toNat : Int), .int .u16 (p2.toNat : Int), .int .u32 (q2.toNat : Int), .int .u32 (k2.toNat : Int), .int .u8 (r.toNat : Int), .int .u8 (f.toNat : Int), .int .u16 (z.toNat : Int), .int .u16 (u.toNat : Int), .slice B1 L1.length d1, .slice B2 L2.length d2] := by rw [← hev]; exact (eval_put (by kernel_rfl) 55 rfl (by decide)).trans q1
        clear hev hd q0 q1
        exact .inr ⟨_, _, _, by go_simp, (HA2 B1 d1 B2 d2 L1 L2 HL1.out HL2.out W (rl1.next hVW) (rl2.next hVW)).out, fun e w' he => by
          obtain ⟨L, A, c, M, B, d, rfl, HL, HM, hr, hs, hb⟩ := he
          exact ⟨_, rfl, ⟨L, A, c, M, B, d, rfl, HL, HM, hr, hs⟩, hb⟩⟩
      · obtain rfl := Option.some.inj hoo
        refine .inl ⟨wanted_none rfl, ?_⟩
        generalize hev : Act.eval _ = ev
        have ec : ∀ c, ev (.const c) = c := fun c => by rw [← hev]; rfl
        have e3 : ev (.tmp 3) = .pointer (some ⟨w.heap.size + 1, 0, none⟩) := by rw [← hev]; exact eval_old (by kernel_rfl) 55 rfl (by decide) rfl
        clear hev hd
        exact .inl ⟨_, W, load_blk Try.underlying40 (by kernel_rfl) (KS.next hVW) rfl e3, rfl, Below.refl _ _⟩
      · obtain rfl := Option.some.inj hoo
        obtain ⟨L2, A2, c2, M2, B2, d2, q2, HL2, HM2, r2, s2⟩ := hd 2 (by kernel_rfl)
        have q3 : uu 3 = .agg #[.int .u16 (a.toNat : Int), .int .u16 (b.toNat : Int), .int .u32 (q.toNat : Int), .int .u32 (k.toNat : Int), .int .u8 (r.toNat : Int), .int .u8 (f.toNat : Int), .int .u16 (z.toNat : Int), .int .u16 (u.toNat : Int), .slice a8 os.length cap8, .slice a9 xs.length cap9] := hd 3 (by kernel_rfl)
        refine .inl ⟨wanted_none rfl, ?_⟩
        generalize hev : Act.eval _ = ev
        have ec : ∀ c, ev (.const c) = c := fun c => by rw [← hev]; rfl
        have ef : ∀ f, ev (.func f) = .func (.func f) #[] #[] := fun f => by rw [← hev]; rfl
        have e25 : ev (.tmp 25) = .agg #[.int .u16 (a.toNat : Int), .int .u16 (b.toNat : Int), .int .u32 (q.toNat : Int), .int .u32 (k.toNat : Int), .int .u8 (r.toNat : Int), .int .u8 (f.toNat : Int), .int .u16 (z.toNat : Int), .int .u16 (u.toNat : Int), .slice A2 L2.length c2, .slice B2 M2.length d2] := by rw [← hev]; exact (eval_put (by kernel_rfl) 55 rfl (by decide)).trans q2
        have e26 : ev (.tmp 26) = .agg #[.int .u16 (a.toNat : Int), .int .u16 (b.toNat : Int), .int .u32 (q.toNat : Int), .int .u32 (k.toNat : Int), .int .u8 (r.toNat : Int), .int .u8 (f.toNat : Int), .int .u16 (z.toNat : Int), .int .u16 (u.toNat : Int), .slice a8 os.length cap8, .slice a9 xs.length cap9] := by rw [← hev]; exact (eval_put (by kernel_rfl) 55 rfl (by decide)).trans q3
        clear hev hd q2 q3
        exact .inr ⟨_, _, _, by go_simp, tsame_yes a b q k r f z u _ _ _ _ _ _ _ _ L2 M2 os xs W r2 s2 (R1.next hVW) (R2.next hVW) HL2.out.symm HM2.out.symm, fun e w' he => ⟨_, he.1, rfl, he.2⟩⟩
      · obtain rfl := Option.some.inj hoo
        have q4 : uu 4 = .bool true := hd 4 (by kernel_rfl)
        refine .inl ⟨wanted_none rfl, ?_⟩
        generalize hev : Act.eval _ = ev
        have ec : ∀ c, ev (.const c) = c := fun c => by rw [← hev]; rfl
        have e27 : ev (.tmp 27) = .bool true := by rw [← hev]; exact (eval_put (by kernel_rfl) 55 rfl (by decide)).trans q4
        clear hev hd q4
        exact .inl ⟨_, W, by go_simp, rfl, Below.refl _ _⟩
      · obtain rfl := Option.some.inj hoo
        have q5 : uu 5 = .bool true := hd 5 (by kernel_rfl)
        refine .inl ⟨wanted_yes rfl (yielded_put (k := 28) (by kernel_rfl) (by kernel_rfl) 55 rfl (by decide) q5), ?_⟩
        generalize hev : Act.eval _ = ev
        have ec : ∀ c, ev (.const c) = c := fun c => by rw [← hev]; rfl
        have e5 : ev (.tmp 5) = .pointer (some ⟨G5, 0, none⟩) := by rw [← hev]; exact eval_old (by kernel_rfl) 55 rfl (by decide) rfl
        clear hev hd q5
        exact .inl ⟨_, W, by go_simp, rfl, Below.refl _ _⟩
      · obtain rfl := Option.some.inj hoo
        have q6 : uu 6 = .pointer (some ⟨G5, 9, none⟩) := hd 6 (by kernel_rfl)
        have q5 : uu 5 = .bool true := hd 5 (by kernel_rfl)
        refine .inl ⟨wanted_yes rfl (yielded_put (k := 28) (by kernel_rfl) (by kernel_rfl) 55 rfl (by decide) q5), ?_⟩
        generalize hev : Act.eval _ = ev
        have ec : ∀ c, ev (.const c) = c := fun c => by rw [← hev]; rfl
        have e29 : ev (.tmp 29) = .pointer (some ⟨G5, 9, none⟩) := by rw [← hev]; exact (eval_put (by kernel_rfl) 55 rfl (by decide)).trans q6
        clear hev hd q6 q5
        obtain ⟨cc0, cc1, cc2⟩ := HS4 W hVW
        exact .inl ⟨_, W, by go_simp, rfl, Below.refl _ _⟩
      · obtain rfl := Option.some.inj hoo
        have q5 : uu 5 = .bool true := hd 5 (by kernel_rfl)
        refine .inl ⟨wanted_yes rfl (yielded_put (k := 28) (by kernel_rfl) (by kernel_rfl) 55 rfl (by decide) q5), ?_⟩
        generalize hev : Act.eval _ = ev
        have ec : ∀ c, ev (.const c) = c := fun c => by rw [← hev]; rfl
        have e3 : ev (.tmp 3) = .pointer (some ⟨w.heap.size + 1, 0, none⟩) := by rw [← hev]; exact eval_old (by kernel_rfl) 55 rfl (by decide) rfl
        clear hev hd q5
        exact .inl ⟨_, W, by go_simp, rfl, Below.refl _ _⟩
      · obtain rfl := Option.some.inj hoo
        have q8 : uu 8 = .pointer (some ⟨w.heap.size + 1, 9, none⟩) := hd 8 (by kernel_rfl)
        have q5 : uu 5 = .bool true := hd 5 (by kernel_rfl)
        refine .inl ⟨wanted_yes rfl (yielded_put (k := 28) (by kernel_rfl) (by kernel_rfl) 55 rfl (by decide) q5), ?_⟩
        generalize hev : Act.eval _ = ev
        have ec : ∀ c, ev (.const c) = c := fun c => by rw [← hev]; rfl
        have e31 : ev (.tmp 31) = .pointer (some ⟨w.heap.size + 1, 9, none⟩) := by rw [← hev]; exact (eval_put (by kernel_rfl) 55 rfl (by decide)).trans q8
        clear hev hd q8 q5
        obtain ⟨cc0, cc1, cc2⟩ := HS4 W hVW
        exact .inl ⟨_, W, by go_simp, rfl, Below.refl _ _⟩
      · obtain rfl := Option.some.inj hoo
        have q7 : uu 7 = .slice B2 L2.length d2 := hd 7 (by kernel_rfl)
        have q9 : uu 9 = .slice a9 xs.length cap9 := hd 9 (by kernel_rfl)
        have q5 : uu 5 = .bool true := hd 5 (by kernel_rfl)
        refine .inl ⟨wanted_yes rfl (yielded_put (k := 28) (by kernel_rfl) (by kernel_rfl) 55 rfl (by decide) q5), ?_⟩
        generalize hev : Act.eval _ = ev
        have ec : ∀ c, ev (.const c) = c := fun c => by rw [← hev]; rfl
        have ef : ∀ f, ev (.func f) = .func (.func f) #[] #[] := fun f => by rw [← hev]; rfl
        have e30 : ev (.tmp 30) = .slice B2 L2.length d2 := by rw [← hev]; exact (eval_put (by kernel_rfl) 55 rfl (by decide)).trans q7
        have e32 : ev (.tmp 32) = .slice a9 xs.length cap9 := by rw [← hev]; exact (eval_put (by kernel_rfl) 55 rfl (by decide)).trans q9
        clear hev hd q7 q9 q5
        exact .inr ⟨_, _, _, by go_simp, rsame_eq _ _ _ _ L2 xs W _ (rl2.next hVW) (R2.next hVW) HL2.out, fun e w' he => ⟨_, he.1, rfl, he.2.bel⟩⟩
      · obtain rfl := Option.some.inj hoo
        have q5 : uu 5 = .bool true := hd 5 (by kernel_rfl)
        have q10 : uu 10 = .bool true := hd 10 (by kernel_rfl)
        refine .inl ⟨wanted_none rfl, ?_⟩
        generalize hev : Act.eval _ = ev
        have ec : ∀ c, ev (.const c) = c := fun c => by rw [← hev]; rfl
        have e28 : ev (.tmp 28) = .bool true := by rw [← hev]; exact (eval_put (by kernel_rfl) 55 rfl (by decide)).trans q5
        have e33 : ev (.tmp 33) = .bool true := by rw [← hev]; exact (eval_put (by kernel_rfl) 55 rfl (by decide)).trans q10
        clear hev hd q5 q10
        exact .inl ⟨_, W, by go_simp, rfl, Below.refl _ _⟩
      · obtain rfl := Option.some.inj hoo
        have q11 : uu 11 = .bool true := hd 11 (by kernel_rfl)
        refine .inl ⟨wanted_none rfl, ?_⟩
        generalize hev : Act.eval _ = ev
        have ec : ∀ c, ev (.const c) = c := fun c => by rw [← hev]; rfl
        have e34 : ev (.tmp 34) = .bool true := by rw [← hev]; exact (eval_put (by kernel_rfl) 55 rfl (by decide)).trans q11
        clear hev hd q11
        exact .inl ⟨_, W, by go_simp, rfl, Below.refl _ _⟩
      · obtain rfl := Option.some.inj hoo
        have q12 : uu 12 = .bool true := hd 12 (by kernel_rfl)
        refine .inl ⟨wanted_yes rfl (yielded_put (k := 35) (by kernel_rfl) (by kernel_rfl) 55 rfl (by decide) q12), ?_⟩
        generalize hev : Act.eval _ = ev
        have ec : ∀ c, ev (.const c) = c := fun c => by rw [← hev]; rfl
        have e5 : ev (.tmp 5) = .pointer (some ⟨G5, 0, none⟩) := by rw [← hev]; exact eval_old (by kernel_rfl) 55 rfl (by decide) rfl
        clear hev hd q12
        exact .inl ⟨_, W, load_blk Try.underlying40 (by kernel_rfl) (KX.next hVW) rfl e5, rfl, Below.refl _ _⟩
      · obtain rfl := Option.some.inj hoo
        have q13 : uu 13 = .agg #[.int .u16 (p.toNat : Int), .int .u16 (p2.toNat : Int), .int .u32 (q2.toNat : Int), .int .u32 (k2.toNat : Int), .int .u8 (r.toNat : Int), .int .u8 (f.toNat : Int), .int .u16 (z.toNat : Int), .int .u16 (u.toNat : Int), .slice B1 L1.length d1, .slice B2 L2.length d2] := hd 13 (by kernel_rfl)
        have q12 : uu 12 = .bool true := hd 12 (by kernel_rfl)
        refine .inl ⟨wanted_yes rfl (yielded_put (k := 35) (by kernel_rfl) (by kernel_rfl) 55 rfl (by decide) q12), ?_⟩
        generalize hev : Act.eval _ = ev
        have ec : ∀ c, ev (.const c) = c := fun c => by rw [← hev]; rfl
        have ef : ∀ f, ev (.func f) = .func (.func f) #[] #[] := fun f => by rw [← hev]; rfl
        have e36 : ev (.tmp 36) = .agg #[.int .u16 (p.toNat : Int), .int .u16 (p2.toNat : Int), .int .u32 (q2.toNat : Int), .int .u32 (k2.toNat : Int), .int .u8 (r.toNat : Int), .int .u8 (f.toNat : Int), .int .u16 (z.toNat : Int), .int .u16 (u.toNat : Int), .slice B1 L1.length d1, .slice B2 L2.length d2] := by rw [← hev]; exact (eval_put (by kernel_rfl) 55 rfl (by decide)).trans q13
        clear hev hd q13 q12
        exact .inr ⟨_, _, _, by go_simp, (HN1 B1 L1.length d1 B2 L2.length d2 W (by rw [HL2.out])).out, fun e w' he => ⟨_, he.1, rfl, he.2⟩⟩
      · obtain rfl := Option.some.inj hoo
        have q12 : uu 12 = .bool true := hd 12 (by kernel_rfl)
        refine .inl ⟨wanted_yes rfl (yielded_put (k := 35) (by kernel_rfl) (by kernel_rfl) 55 rfl (by decide) q12), ?_⟩
        generalize hev : Act.eval _ = ev
        have ec : ∀ c, ev (.const c) = c := fun c => by rw [← hev]; rfl
        have e3 : ev (.tmp 3) = .pointer (some ⟨w.heap.size + 1, 0, none⟩) := by rw [← hev]; exact eval_old (by kernel_rfl) 55 rfl (by decide) rfl
        clear hev hd q12
        exact .inl ⟨_, W, load_blk Try.underlying40 (by kernel_rfl) (KS.next hVW) rfl e3, rfl, Below.refl _ _⟩
      · obtain rfl := Option.some.inj hoo
        have q15 : uu 15 = .agg #[.int .u16 (a.toNat : Int), .int .u16 (b.toNat : Int), .int .u32 (q.toNat : Int), .int .u32 (k.toNat : Int), .int .u8 (r.toNat : Int), .int .u8 (f.toNat : Int), .int .u16 (z.toNat : Int), .int .u16 (u.toNat : Int), .slice a8 os.length cap8, .slice a9 xs.length cap9] := hd 15 (by kernel_rfl)
        have q12 : uu 12 = .bool true := hd 12 (by kernel_rfl)
        refine .inl ⟨wanted_yes rfl (yielded_put (k := 35) (by kernel_rfl) (by kernel_rfl) 55 rfl (by decide) q12), ?_⟩
        generalize hev : Act.eval _ = ev
        have ec : ∀ c, ev (.const c) = c := fun c => by rw [← hev]; rfl
        have ef : ∀ f, ev (.func f) = .func (.func f) #[] #[] := fun f => by rw [← hev]; rfl
        have e38 : ev (.tmp 38) = .agg #[.int .u16 (a.toNat : Int), .int .u16 (b.toNat : Int), .int .u32 (q.toNat : Int), .int .u32 (k.toNat : Int), .int .u8 (r.toNat : Int), .int .u8 (f.toNat : Int), .int .u16 (z.toNat : Int), .int .u16 (u.toNat : Int), .slice a8 os.length cap8, .slice a9 xs.length cap9] := by rw [← hev]; exact (eval_put (by kernel_rfl) 55 rfl (by decide)).trans q15
        clear hev hd q15 q12
        exact .inr ⟨_, _, _, by go_simp, (HN2 a8 os.length cap8 a9 xs.length cap9 W rfl).out, fun e w' he => ⟨_, he.1, rfl, he.2⟩⟩
      · obtain rfl := Option.some.inj hoo
        have q12 : uu 12 = .bool true := hd 12 (by kernel_rfl)
        refine .inl ⟨wanted_yes rfl (yielded_put (k := 35) (by kernel_rfl) (by kernel_rfl) 55 rfl (by decide) q12), ?_⟩
        generalize hev : Act.eval _ = ev
        have ec : ∀ c, ev (.const c) = c := fun c => by rw [← hev]; rfl
        have e2 : ev (.tmp 2) = .pointer (some ⟨w.heap.size, 0, none⟩) := by rw [← hev]; exact eval_old (by kernel_rfl) 55 rfl (by decide) rfl
        clear hev hd q12
        exact .inl ⟨_, W, by go_simp, rfl, Below.refl _ _⟩
      · obtain rfl := Option.some.inj hoo
        have q17 : uu 17 = .pointer (some ⟨w.heap.size, 4, none⟩) := hd 17 (by kernel_rfl)
        have q12 : uu 12 = .bool true := hd 12 (by kernel_rfl)
        refine .inl ⟨wanted_yes rfl (yielded_put (k := 35) (by kernel_rfl) (by kernel_rfl) 55 rfl (by decide) q12), ?_⟩
        generalize hev : Act.eval _ = ev
        have ec : ∀ c, ev (.const c) = c := fun c => by rw [← hev]; rfl
        have e40 : ev (.tmp 40) = .pointer (some ⟨w.heap.size, 4, none⟩) := by rw [← hev]; exact (eval_put (by kernel_rfl) 55 rfl (by decide)).trans q17
        clear hev hd q17 q12
        obtain ⟨cc0, cc1, cc2⟩ := HS4 W hVW
        exact .inl ⟨_, W, by go_simp, rfl, Below.refl _ _⟩
      · obtain rfl := Option.some.inj hoo
        have q16 : uu 16 = .int .u32 (N2 : Int) := hd 16 (by kernel_rfl)
        have q18 : uu 18 = .int .u32 (ts.toNat : Int) := hd 18 (by kernel_rfl)
        have q12 : uu 12 = .bool true := hd 12 (by kernel_rfl)
        refine .inl ⟨wanted_yes rfl (yielded_put (k := 35) (by kernel_rfl) (by kernel_rfl) 55 rfl (by decide) q12), ?_⟩
        generalize hev : Act.eval _ = ev
        have ec : ∀ c, ev (.const c) = c := fun c => by rw [← hev]; rfl
        have e39 : ev (.tmp 39) = .int .u32 (N2 : Int) := by rw [← hev]; exact (eval_put (by kernel_rfl) 55 rfl (by decide)).trans q16
        have e41 : ev (.tmp 41) = .int .u32 (ts.toNat : Int) := by rw [← hev]; exact (eval_put (by kernel_rfl) 55 rfl (by decide)).trans q18
        clear hev hd q16 q18 q12
        have hh := HW.out
        exact .inl ⟨_, W, by go_simp, rfl, Below.refl _ _⟩
      · obtain rfl := Option.some.inj hoo
        have q14 : uu 14 = .int .u32 (N1 : Int) := hd 14 (by kernel_rfl)
        have q19 : uu 19 = .int .u32 (N1 : Int) := hd 19 (by kernel_rfl)
        have q12 : uu 12 = .bool true := hd 12 (by kernel_rfl)
        refine .inl ⟨wanted_yes rfl (yielded_put (k := 35) (by kernel_rfl) (by kernel_rfl) 55 rfl (by decide) q12), ?_⟩
        generalize hev : Act.eval _ = ev
        have ec : ∀ c, ev (.const c) = c := fun c => by rw [← hev]; rfl
        have e37 : ev (.tmp 37) = .int .u32 (N1 : Int) := by rw [← hev]; exact (eval_put (by kernel_rfl) 55 rfl (by decide)).trans q14
        have e42 : ev (.tmp 42) = .int .u32 (N1 : Int) := by rw [← hev]; exact (eval_put (by kernel_rfl) 55 rfl (by decide)).trans q19
        clear hev hd q14 q19 q12
        exact .inl ⟨_, W, by go_simp, rfl, Below.refl _ _⟩
      · obtain rfl := Option.some.inj hoo
        have q12 : uu 12 = .bool true := hd 12 (by kernel_rfl)
        have q20 : uu 20 = .bool true := hd 20 (by kernel_rfl)
        refine .inl ⟨wanted_none rfl, ?_⟩
        generalize hev : Act.eval _ = ev
        have ec : ∀ c, ev (.const c) = c := fun c => by rw [← hev]; rfl
        have e35 : ev (.tmp 35) = .bool true := by rw [← hev]; exact (eval_put (by kernel_rfl) 55 rfl (by decide)).trans q12
        have e43 : ev (.tmp 43) = .bool true := by rw [← hev]; exact (eval_put (by kernel_rfl) 55 rfl (by decide)).trans q20
        clear hev hd q12 q20
        exact .inl ⟨_, W, by go_simp, rfl, Below.refl _ _⟩
      · obtain rfl := Option.some.inj hoo
        have q21 : uu 21 = .bool true := hd 21 (by kernel_rfl)
        refine .inl ⟨wanted_none rfl, ?_⟩
        generalize hev : Act.eval _ = ev
        have ec : ∀ c, ev (.const c) = c := fun c => by rw [← hev]; rfl
        have e44 : ev (.tmp 44) = .bool true := by rw [← hev]; exact (eval_put (by kernel_rfl) 55 rfl (by decide)).trans q21
        clear hev hd q21
        exact .inl ⟨_, W, by go_simp, rfl, Below.refl _ _⟩
      · obtain rfl := Option.some.inj hoo
        have q22 : uu 22 = .bool true := hd 22 (by kernel_rfl)
        refine .inl ⟨wanted_yes rfl (yielded_put (k := 45) (by kernel_rfl) (by kernel_rfl) 55 rfl (by decide) q22), ?_⟩
        generalize hev : Act.eval _ = ev
        have ec : ∀ c, ev (.const c) = c := fun c => by rw [← hev]; rfl
        have e5 : ev (.tmp 5) = .pointer (some ⟨G5, 0, none⟩) := by rw [← hev]; exact eval_old (by kernel_rfl) 55 rfl (by decide) rfl
        clear hev hd q22
        exact .inl ⟨_, W, load_blk Try.underlying40 (by kernel_rfl) (KX.next hVW) rfl e5, rfl, Below.refl _ _⟩
      · obtain rfl := Option.some.inj hoo
        have q23 : uu 23 = .agg #[.int .u16 (p.toNat : Int), .int .u16 (p2.toNat : Int), .int .u32 (q2.toNat : Int), .int .u32 (k2.toNat : Int), .int .u8 (r.toNat : Int), .int .u8 (f.toNat : Int), .int .u16 (z.toNat : Int), .int .u16 (u.toNat : Int), .slice B1 L1.length d1, .slice B2 L2.length d2] := hd 23 (by kernel_rfl)
        have q22 : uu 22 = .bool true := hd 22 (by kernel_rfl)
        refine .inl ⟨wanted_yes rfl (yielded_put (k := 45) (by kernel_rfl) (by kernel_rfl) 55 rfl (by decide) q22), ?_⟩
        generalize hev : Act.eval _ = ev
        have ec : ∀ c, ev (.const c) = c := fun c => by rw [← hev]; rfl
        have ef : ∀ f, ev (.func f) = .func (.func f) #[] #[] := fun f => by rw [← hev]; rfl
        have e46 : ev (.tmp 46) = .agg #[.int .u16 (p.toNat : Int), .int .u16 (p2.toNat : Int), .int .u32 (q2.toNat : Int), .int .u32 (k2.toNat : Int), .int .u8 (r.toNat : Int), .int .u8 (f.toNat : Int), .int .u16 (z.toNat : Int), .int .u16 (u.toNat : Int), .slice B1 L1.length d1, .slice B2 L2.length d2] := by rw [← hev]; exact (eval_put (by kernel_rfl) 55 rfl (by decide)).trans q23
        clear hev hd q23 q22
        exact .inr ⟨_, _, _, by go_simp, (HP1 B1 L1.length d1 B2 L2.length d2 W (by rw [HL2.out])).out, fun e w' he => ⟨_, he.1, rfl, he.2⟩⟩
      · obtain rfl := Option.some.inj hoo
        have q22 : uu 22 = .bool true := hd 22 (by kernel_rfl)
        refine .inl ⟨wanted_yes rfl (yielded_put (k := 45) (by kernel_rfl) (by kernel_rfl) 55 rfl (by decide) q22), ?_⟩
        generalize hev : Act.eval _ = ev
        have ec : ∀ c, ev (.const c) = c := fun c => by rw [← hev]; rfl
        have e3 : ev (.tmp 3) = .pointer (some ⟨w.heap.size + 1, 0, none⟩) := by rw [← hev]; exact eval_old (by kernel_rfl) 55 rfl (by decide) rfl
        clear hev hd q22
        exact .inl ⟨_, W, load_blk Try.underlying40 (by kernel_rfl) (KS.next hVW) rfl e3, rfl, Below.refl _ _⟩
      · obtain rfl := Option.some.inj hoo
        have q25 : uu 25 = .agg #[.int .u16 (a.toNat : Int), .int .u16 (b.toNat : Int), .int .u32 (q.toNat : Int), .int .u32 (k.toNat : Int), .int .u8 (r.toNat : Int), .int .u8 (f.toNat : Int), .int .u16 (z.toNat : Int), .int .u16 (u.toNat : Int), .slice a8 os.length cap8, .slice a9 xs.length cap9] := hd 25 (by kernel_rfl)
        have q22 : uu 22 = .bool true := hd 22 (by kernel_rfl)
        refine .inl ⟨wanted_yes rfl (yielded_put (k := 45) (by kernel_rfl) (by kernel_rfl) 55 rfl (by decide) q22), ?_⟩
        generalize hev : Act.eval _ = ev
        have ec : ∀ c, ev (.const c) = c := fun c => by rw [← hev]; rfl
        have ef : ∀ f, ev (.func f) = .func (.func f) #[] #[] := fun f => by rw [← hev]; rfl
        have e48 : ev (.tmp 48) = .agg #[.int .u16 (a.toNat : Int), .int .u16 (b.toNat : Int), .int .u32 (q.toNat : Int), .int .u32 (k.toNat : Int), .int .u8 (r.toNat : Int), .int .u8 (f.toNat : Int), .int .u16 (z.toNat : Int), .int .u16 (u.toNat : Int), .slice a8 os.length cap8, .slice a9 xs.length cap9] := by rw [← hev]; exact (eval_put (by kernel_rfl) 55 rfl (by decide)).trans q25
        clear hev hd q25 q22
        exact .inr ⟨_, _, _, by go_simp, (HP2 a8 os.length cap8 a9 xs.length cap9 W rfl).out, fun e w' he => ⟨_, he.1, rfl, he.2⟩⟩
      · obtain rfl := Option.some.inj hoo
        have q24 : uu 24 = .int .u32 (N3 : Int) := hd 24 (by kernel_rfl)
        have q26 : uu 26 = .int .u32 (N3 : Int) := hd 26 (by kernel_rfl)
        have q22 : uu 22 = .bool true := hd 22 (by kernel_rfl)
        refine .inl ⟨wanted_yes rfl (yielded_put (k := 45) (by kernel_rfl) (by kernel_rfl) 55 rfl (by decide) q22), ?_⟩
        generalize hev : Act.eval _ = ev
        have ec : ∀ c, ev (.const c) = c := fun c => by rw [← hev]; rfl
        have e47 : ev (.tmp 47) = .int .u32 (N3 : Int) := by rw [← hev]; exact (eval_put (by kernel_rfl) 55 rfl (by decide)).trans q24
        have e49 : ev (.tmp 49) = .int .u32 (N3 : Int) := by rw [← hev]; exact (eval_put (by kernel_rfl) 55 rfl (by decide)).trans q26
        clear hev hd q24 q26 q22
        exact .inl ⟨_, W, by go_simp, rfl, Below.refl _ _⟩
      · obtain rfl := Option.some.inj hoo
        have q22 : uu 22 = .bool true := hd 22 (by kernel_rfl)
        have q27 : uu 27 = .bool true := hd 27 (by kernel_rfl)
        refine .inl ⟨wanted_none rfl, ?_⟩
        generalize hev : Act.eval _ = ev
        have ec : ∀ c, ev (.const c) = c := fun c => by rw [← hev]; rfl
        have e45 : ev (.tmp 45) = .bool true := by rw [← hev]; exact (eval_put (by kernel_rfl) 55 rfl (by decide)).trans q22
        have e50 : ev (.tmp 50) = .bool true := by rw [← hev]; exact (eval_put (by kernel_rfl) 55 rfl (by decide)).trans q27
        clear hev hd q22 q27
        exact .inl ⟨_, W, by go_simp, rfl, Below.refl _ _⟩
      · obtain rfl := Option.some.inj hoo
        have q28 : uu 28 = .bool true := hd 28 (by kernel_rfl)
        refine .inl ⟨wanted_none rfl, ?_⟩
        generalize hev : Act.eval _ = ev
        have ec : ∀ c, ev (.const c) = c := fun c => by rw [← hev]; rfl
        have e51 : ev (.tmp 51) = .bool true := by rw [← hev]; exact (eval_put (by kernel_rfl) 55 rfl (by decide)).trans q28
        clear hev hd q28
        exact .inl ⟨_, W, by go_simp, rfl, Below.refl _ _⟩
      · obtain rfl := Option.some.inj hoo
        have q29 : uu 29 = .bool true := hd 29 (by kernel_rfl)
        refine .inl ⟨wanted_yes rfl (yielded_put (k := 52) (by kernel_rfl) (by kernel_rfl) 55 rfl (by decide) q29), ?_⟩
        generalize hev : Act.eval _ = ev
        have ec : ∀ c, ev (.const c) = c := fun c => by rw [← hev]; rfl
        have ef : ∀ f, ev (.func f) = .func (.func f) #[] #[] := fun f => by rw [← hev]; rfl
        clear hev hd q29
        exact .inr ⟨_, _, _, by go_simp, lives28_any W, fun e w' he => ⟨_, he.1, rfl, he.2⟩⟩
      · obtain rfl := Option.some.inj hoo
        have q29 : uu 29 = .bool true := hd 29 (by kernel_rfl)
        have q30 : uu 30 = .bool true := hd 30 (by kernel_rfl)
        refine .inl ⟨wanted_none rfl, ?_⟩
        generalize hev : Act.eval _ = ev
        have ec : ∀ c, ev (.const c) = c := fun c => by rw [← hev]; rfl
        have e52 : ev (.tmp 52) = .bool true := by rw [← hev]; exact (eval_put (by kernel_rfl) 55 rfl (by decide)).trans q29
        have e53 : ev (.tmp 53) = .bool true := by rw [← hev]; exact (eval_put (by kernel_rfl) 55 rfl (by decide)).trans q30
        clear hev hd q29 q30
        exact .inl ⟨_, W, by go_simp, rfl, Below.refl _ _⟩
      · obtain rfl := Option.some.inj hoo
        have q31 : uu 31 = .bool true := hd 31 (by kernel_rfl)
        refine .inl ⟨wanted_none rfl, ?_⟩
        generalize hev : Act.eval _ = ev
        have ec : ∀ c, ev (.const c) = c := fun c => by rw [← hev]; rfl
        have e54 : ev (.tmp 54) = .bool true := by rw [← hev]; exact (eval_put (by kernel_rfl) 55 rfl (by decide)).trans q31
        clear hev hd q31
        exact .inl ⟨_, W, by go_simp, rfl, Below.refl _ _⟩
      · simp at hoo
    · intro uu W hVW hall
      have q32 : uu 32 = .bool true := hall 32 (by decide)
      replace hB := hB.trans (hVW.mono hB.size)
      clear hall HS4 hVW
      simp only [putAll, Act.put, Nat.reduceAdd, q32]
      simp only [List.setIfInBounds_toArray, List.set_cons_succ, List.set_cons_zero]
      go_wp2_with fail
      go_ret
      exact ⟨rfl, hB⟩

theorem neg_of (x : UInt32) : ∃ y : UInt32, (x.toNat + y.toNat) % 4294967296 = 0 ∧ ∀ z : UInt32, z + x + y = z := by
  have hx := x.toNat_lt
  refine ⟨UInt32.ofNat ((4294967296 - x.toNat) % 4294967296), ?_, fun z => ?_⟩
  · simp
    omega
  · have hz := z.toNat_lt
    apply UInt32.toNat_inj.mp
    rw [UInt32.toNat_add, UInt32.toNat_add]
    simp
    omega
theorem SpliceBack_walk (t0 t1 t2 t3 t4 t5 : Int) (y0 y1 y2 y3 y4 y5 y6 y7 : Int) (a8 : Option Addr) (len8 cap8 : Nat) (z8 : List Int) (a9 : Option Addr) (len9 cap9 : Nat) (z9 : List Int) (w : World) (u0 : (Lit.int .u32 t0).wf = true) (u1 : (Lit.int .u32 t1).wf = true) (u2 : (Lit.int .u16 t2).wf = true) (u3 : (Lit.int .u16 t3).wf = true) (u4 : (Lit.int .u32 t4).wf = true) (u5 : (Lit.int .u32 t5).wf = true) (v0 : (Lit.int .u16 y0).wf = true) (v1 : (Lit.int .u16 y1).wf = true) (v2 : (Lit.int .u32 y2).wf = true) (v3 : (Lit.int .u32 y3).wf = true) (v4 : (Lit.int .u8 y4).wf = true) (v5 : (Lit.int .u8 y5).wf = true) (v6 : (Lit.int .u16 y6).wf = true) (v7 : (Lit.int .u16 y7).wf = true) (w8 : InRow .u8 w a8 len8 cap8 z8) (w9 : InRow .u8 w a9 len9 cap9 z9) :
    Calls Try.prog 4 #[.agg #[.int .u32 t0, .int .u32 t1, .int .u16 t2, .int .u16 t3, .int .u32 t4, .int .u32 t5], .agg #[.int .u16 y0, .int .u16 y1, .int .u32 y2, .int .u32 y3, .int .u8 y4, .int .u8 y5, .int .u16 y6, .int .u16 y7, .slice a8 len8 cap8, .slice a9 len9 cap9]] w fun e w' => e = .returned (.bool true) ∧ Below w.heap.size w w' := by
  obtain ⟨s, rfl⟩ := u32_of u0
  obtain ⟨d, rfl⟩ := u32_of u1
  obtain ⟨p, rfl⟩ := u16_of u2
  obtain ⟨p2, rfl⟩ := u16_of u3
  obtain ⟨ts, rfl⟩ := u32_of u4
  obtain ⟨ta, rfl⟩ := u32_of u5
  obtain ⟨a, rfl⟩ := u16_of v0
  obtain ⟨b, rfl⟩ := u16_of v1
  obtain ⟨q, rfl⟩ := u32_of v2
  obtain ⟨k, rfl⟩ := u32_of v3
  obtain ⟨r, rfl⟩ := u8_of v4
  obtain ⟨f, rfl⟩ := u8_of v5
  obtain ⟨z, rfl⟩ := u16_of v6
  obtain ⟨u, rfl⟩ := u16_of v7
  obtain ⟨os, hol, ho, hlc, hcc, hm⟩ := few_len w8 50
  obtain ⟨xs, hxl, hx, hlc2, hcc2, hm2⟩ := few_len w9 200
  have HF := fun W => Lib.hid (tfew_any a b q k r f z u a8 a9 len8 cap8 len9 cap9 os.length xs.length W hlc hcc hlc2 hcc2 hm hm2)
  obtain ⟨oq, hoq, hoq2⟩ := neg_of ts
  obtain ⟨ok, hok, hok2⟩ := neg_of ta
  obtain ⟨q2, hq2⟩ : ∃ q2, q2 = q + ts := ⟨_, rfl⟩
  have hq3 : q = q2 + oq := by rw [hq2, hoq2]
  have hX : xs.length + sp f ≤ 1000 := by unfold sp; split <;> split <;> omega
  have hw : IntKind.u32.wrap ((((q.toNat + (xs.length + sp f)) % 4294967296 : Nat) : Int) + (ts.toNat : Int)) = (((q2.toNat + (xs.length + sp f)) % 4294967296 : Nat) : Int) := by
    rw [IntKind.wrap_u32, hq2, UInt32.toNat_add]
    generalize xs.length + sp f = X
    omega
  have hlast : ∀ k2 : UInt32, _ → _ → _ := fun k2 h1 h2 => spl_back s d p p2 ts ta a b q k r f z u q2 k2 oq ok ((q2.toNat + (xs.length + sp f)) % 4294967296) ((q.toNat + (xs.length + sp f)) % 4294967296) (xs.length + sp f) a8 a9 len8 len9 cap8 cap9 os xs w ho hx HF h1 h2
    (fun W => opp_any ts oq hoq W) (fun W => opp_any ta ok hok W)
    (fun A1 n1 c1 A2 n c2 W hn => by subst hn; exact tnext_any p p2 q2 k2 r f z u A1 A2 n1 c1 _ c2 (by omega) W)
    (fun A1 n1 c1 A2 n c2 W hn => by subst hn; exact tnext_any a b q k r f z u A1 A2 n1 c1 _ c2 (by omega) W)
    (fun A1 n1 c1 A2 n c2 W hn => by subst hn; exact tspace_any p p2 q2 k2 r f z u A1 A2 n1 c1 _ c2 (by omega) W)
    (fun A1 n1 c1 A2 n c2 W hn => by subst hn; exact tspace_any a b q k r f z u A1 A2 n1 c1 _ c2 (by omega) W) hw
  obtain ⟨zz, ez⟩ : ∃ a : UInt32, (a.toNat : Int) = 0 := ⟨0, rfl⟩
  cases hf : hasB f 16
  · refine hlast k (fun W h1 h2 => apply_0 s d p p2 ts ta a b q k r f z u q2 k hq2 rfl hf a8 a9 cap8 cap9 os xs W h1 h2 (by omega) (by omega)) (fun B1 d1 B2 d2 L1 L2 hL1 hL2 W h1 h2 => ?_)
    subst hL1 hL2
    have h := apply_0 zz zz a b oq ok p p2 q2 k r f z u q k hq3 rfl hf B1 B2 d1 d2 _ _ W h1 h2 (by omega) (by omega)
    simp only [ez] at h
    exact h
  · obtain ⟨k2, hk2⟩ : ∃ k2, k2 = k + ta := ⟨_, rfl⟩
    have hk3 : k = k2 + ok := by rw [hk2, hok2]
    refine hlast k2 (fun W h1 h2 => apply_1 s d p p2 ts ta a b q k r f z u q2 k2 hq2 hk2 hf a8 a9 cap8 cap9 os xs W h1 h2 (by omega) (by omega)) (fun B1 d1 B2 d2 L1 L2 hL1 hL2 W h1 h2 => ?_)
    subst hL1 hL2
    have h := apply_1 zz zz a b oq ok p p2 q2 k2 r f z u q k hq3 hk3 hf B1 B2 d1 d2 _ _ W h1 h2 (by omega) (by omega)
    simp only [ez] at h
    exact h
end Go.Proofs.Ytggcomociojfoab
