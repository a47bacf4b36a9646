/- The walks of the statements on tcp.Put. -/
import Derived.Test.YtfejdfdgbfpgkaaLaw09
import Derived.Test.YtfejdfdgbfpgkaaTcp3
namespace Go.Proofs.Ytfejdfdgbfpgkaa
open Go.RowKit

set_option maxHeartbeats 4000000 in
theorem TcpPuts_walk (x0 x1 y0 y1 y2 y3 y4 y5 y6 y7 : Int) (a8 : Option Addr) (len8 cap8 : Nat) (z8 : List Int) (a9 : Option Addr) (len9 cap9 : Nat) (z9 : List Int) (w : World) (w0 : (Lit.int .u32 x0).wf = true) (w1 : (Lit.int .u32 x1).wf = true) (v0 : (Lit.int .u16 y0).wf = true) (v1 : (Lit.int .u16 y1).wf = true) (v2 : (Lit.int .u32 y2).wf = true) (v3 : (Lit.int .u32 y3).wf = true) (v4 : (Lit.int .u8 y4).wf = true) (v5 : (Lit.int .u8 y5).wf = true) (v6 : (Lit.int .u16 y6).wf = true) (v7 : (Lit.int .u16 y7).wf = true) (w8 : InRow .u8 w a8 len8 cap8 z8) (w9 : InRow .u8 w a9 len9 cap9 z9) :
    Calls Try.prog 8 #[.int .u32 x0, .int .u32 x1, .agg #[.int .u16 y0, .int .u16 y1, .int .u32 y2, .int .u32 y3, .int .u8 y4, .int .u8 y5, .int .u16 y6, .int .u16 y7, .slice a8 len8 cap8, .slice a9 len9 cap9]] w fun e w' => e = .returned (.bool true) ∧ Below w.heap.size w w' := by
  obtain ⟨s, rfl⟩ := u32_of w0
  obtain ⟨d, rfl⟩ := u32_of w1
  obtain ⟨a, rfl⟩ := u16_of v0
  obtain ⟨b, rfl⟩ := u16_of v1
  obtain ⟨q, rfl⟩ := u32_of v2
  obtain ⟨k, rfl⟩ := u32_of v3
  obtain ⟨r, rfl⟩ := u8_of v4
  obtain ⟨f, rfl⟩ := u8_of v5
  obtain ⟨z, rfl⟩ := u16_of v6
  obtain ⟨u, rfl⟩ := u16_of v7
  obtain ⟨os, hol, ho0, hlc, hcc, hm⟩ := few_len w8 50
  obtain ⟨xs, hxl, hx0, hlc2, hcc2, hm2⟩ := few_len w9 200
  clear w0 w1 v0 v1 v2 v3 v4 v5 v6 v7 w8 w9
  have HF := fun W => Lib.hid (tfew_any a b q k r f z u a8 a9 len8 cap8 len9 cap9 os.length xs.length W hlc hcc hlc2 hcc2 hm hm2)
  clear hlc hcc hm hlc2 hcc2 hm2

  by_cases h1 : 15 < r.toNat
  · skip
    have HP1 := fun W => Lib.hid (tput_bad0 s d a b q k r f z u a8 a9 os.length cap8 xs.length cap9 (by omega) (by omega) W h1)
    have HP2 := fun W => Lib.hid (rtput_bad0 s d a b q k r f z u a8 a9 os.length cap8 xs.length cap9 (by omega) (by omega) W h1)
    have HP3 := fun W => Lib.hid (tcheck_bad0 a b q k r f z u a8 a9 os.length cap8 xs.length cap9 (by omega) (by omega) W h1)
    clear h1
    go_enter Try.func8, Try.ntmps8
    go_wp2_with fail
    refine (HF _).out.mono ?_
    rintro e w_1 ⟨rfl, hbel⟩
    have hB := bnext (bnextA (Below.refl w.heap.size w) _) hbel
    have hK := (Blk.new w #[.int .u16 (a.toNat : Int), .int .u16 (b.toNat : Int), .int .u32 (q.toNat : Int), .int .u32 (k.toNat : Int), .int .u8 (r.toNat : Int), .int .u8 (f.toNat : Int), .int .u16 (z.toNat : Int), .int .u16 (u.toNat : Int), .slice a8 len8 cap8, .slice a9 len9 cap9] 53).next hbel
    obtain ⟨p0, p1, p2, p3, p4, p5, p6, p7, p8, p9, g0, g1, g2, g3, g4, g5, g6, g7, g8, g9⟩ := hK.get10
    clear hbel HF
    go_wp2_with fail
    have hBV := bset10 hB (Nat.le_refl _) (.int .u16 (a.toNat : Int)) (.int .u16 (b.toNat : Int)) (.int .u32 (q.toNat : Int)) (.int .u32 (k.toNat : Int)) (.int .u8 (r.toNat : Int)) (.int .u8 (f.toNat : Int)) (.int .u16 (z.toNat : Int)) (.int .u16 (u.toNat : Int)) (.slice a8 os.length cap8) (.slice a9 xs.length cap9)
    have hKV := hK.set10 (u0 := .int .u16 (a.toNat : Int)) (u1 := .int .u16 (b.toNat : Int)) (u2 := .int .u32 (q.toNat : Int)) (u3 := .int .u32 (k.toNat : Int)) (u4 := .int .u8 (r.toNat : Int)) (u5 := .int .u8 (f.toNat : Int)) (u6 := .int .u16 (z.toNat : Int)) (u7 := .int .u16 (u.toNat : Int)) (u8 := .slice a8 os.length cap8) (u9 := .slice a9 xs.length cap9)
    simp only [setAll10] at hBV hKV
    clear p0 p1 p2 p3 p4 p5 p6 p7 p8 p9 g0 g1 g2 g3 g4 g5 g6 g7 g8 g9 hB hK
    generalize ((((((((((w_1.setCell ⟨w.heap.size, 0, none⟩ (.int .u16 (a.toNat : Int))).setCell ⟨w.heap.size, 1, none⟩ (.int .u16 (b.toNat : Int))).setCell ⟨w.heap.size, 2, none⟩ (.int .u32 (q.toNat : Int))).setCell ⟨w.heap.size, 3, none⟩ (.int .u32 (k.toNat : Int))).setCell ⟨w.heap.size, 4, none⟩ (.int .u8 (r.toNat : Int))).setCell ⟨w.heap.size, 5, none⟩ (.int .u8 (f.toNat : Int))).setCell ⟨w.heap.size, 6, none⟩ (.int .u16 (z.toNat : Int))).setCell ⟨w.heap.size, 7, none⟩ (.int .u16 (u.toNat : Int))).setCell ⟨w.heap.size, 8, none⟩ (.slice a8 os.length cap8)).setCell ⟨w.heap.size, 9, none⟩ (.slice a9 xs.length cap9)) = V at hBV hKV ⊢
    have ho := ho0.next hBV
    have hx := hx0.next hBV
    have hB := hBV
    have hK := hKV
    clear hBV hKV ho0 hx0
    refine (HP1 _).out.mono ?_
    rintro e w_2 ⟨rfl, hbel⟩
    replace hB := bnext hB hbel
    replace hK := hK.next hbel
    obtain ⟨p0, p1, p2, p3, p4, p5, p6, p7, p8, p9, -⟩ := hK.get10
    clear hbel
    go_wp2_with fail
    refine (HP2 _).out.mono ?_
    rintro e w_3 ⟨rfl, hbel⟩
    replace hB := bnext hB hbel
    replace hK := hK.next hbel
    clear hbel p0 p1 p2 p3 p4 p5 p6 p7 p8 p9
    go_wp2_with fail
    refine (rsame_yes none none 0 0 [] _ w_3.heap.size (Rd.nil0 _ _ _) (Rd.nil0 _ _ _)).mono ?_
    rintro e w_4 ⟨rfl, hbel⟩
    replace hbel := hbel.bel
    replace hB := bnext hB hbel
    replace hK := hK.next hbel
    obtain ⟨p0, p1, p2, p3, p4, p5, p6, p7, p8, p9, -⟩ := hK.get10
    clear hbel
    go_wp2_with fail
    refine (HP3 _).out.mono ?_
    rintro e w_5 ⟨rfl, hbel⟩
    replace hB := bnext hB hbel
    clear hbel p0 p1 p2 p3 p4 p5 p6 p7 p8 p9 hK
    go_wp2_with fail
    refine (lives09_any _).mono ?_
    rintro e wl ⟨rfl, hbel⟩
    go_wp2_with fail
    go_ret
    exact ⟨rfl, bnext hB hbel⟩
  · have h1 : r.toNat ≤ 15 := by omega
    by_cases h2 : 40 < os.length
    · skip
      have HP1 := fun W => Lib.hid (tput_bad1 s d a b q k r f z u a8 a9 os.length cap8 xs.length cap9 (by omega) (by omega) W h1 h2)
      have HP2 := fun W => Lib.hid (rtput_bad1 s d a b q k r f z u a8 a9 os.length cap8 xs.length cap9 (by omega) (by omega) W h1 h2)
      have HP3 := fun W => Lib.hid (tcheck_bad1 a b q k r f z u a8 a9 os.length cap8 xs.length cap9 (by omega) (by omega) W h1 h2)
      clear h1 h2
      go_enter Try.func8, Try.ntmps8
      go_wp2_with fail
      refine (HF _).out.mono ?_
      rintro e w_1 ⟨rfl, hbel⟩
      have hB := bnext (bnextA (Below.refl w.heap.size w) _) hbel
      have hK := (Blk.new w #[.int .u16 (a.toNat : Int), .int .u16 (b.toNat : Int), .int .u32 (q.toNat : Int), .int .u32 (k.toNat : Int), .int .u8 (r.toNat : Int), .int .u8 (f.toNat : Int), .int .u16 (z.toNat : Int), .int .u16 (u.toNat : Int), .slice a8 len8 cap8, .slice a9 len9 cap9] 53).next hbel
      obtain ⟨p0, p1, p2, p3, p4, p5, p6, p7, p8, p9, g0, g1, g2, g3, g4, g5, g6, g7, g8, g9⟩ := hK.get10
      clear hbel HF
      go_wp2_with fail
      have hBV := bset10 hB (Nat.le_refl _) (.int .u16 (a.toNat : Int)) (.int .u16 (b.toNat : Int)) (.int .u32 (q.toNat : Int)) (.int .u32 (k.toNat : Int)) (.int .u8 (r.toNat : Int)) (.int .u8 (f.toNat : Int)) (.int .u16 (z.toNat : Int)) (.int .u16 (u.toNat : Int)) (.slice a8 os.length cap8) (.slice a9 xs.length cap9)
      have hKV := hK.set10 (u0 := .int .u16 (a.toNat : Int)) (u1 := .int .u16 (b.toNat : Int)) (u2 := .int .u32 (q.toNat : Int)) (u3 := .int .u32 (k.toNat : Int)) (u4 := .int .u8 (r.toNat : Int)) (u5 := .int .u8 (f.toNat : Int)) (u6 := .int .u16 (z.toNat : Int)) (u7 := .int .u16 (u.toNat : Int)) (u8 := .slice a8 os.length cap8) (u9 := .slice a9 xs.length cap9)
      simp only [setAll10] at hBV hKV
      clear p0 p1 p2 p3 p4 p5 p6 p7 p8 p9 g0 g1 g2 g3 g4 g5 g6 g7 g8 g9 hB hK
      generalize ((((((((((w_1.setCell ⟨w.heap.size, 0, none⟩ (.int .u16 (a.toNat : Int))).setCell ⟨w.heap.size, 1, none⟩ (.int .u16 (b.toNat : Int))).setCell ⟨w.heap.size, 2, none⟩ (.int .u32 (q.toNat : Int))).setCell ⟨w.heap.size, 3, none⟩ (.int .u32 (k.toNat : Int))).setCell ⟨w.heap.size, 4, none⟩ (.int .u8 (r.toNat : Int))).setCell ⟨w.heap.size, 5, none⟩ (.int .u8 (f.toNat : Int))).setCell ⟨w.heap.size, 6, none⟩ (.int .u16 (z.toNat : Int))).setCell ⟨w.heap.size, 7, none⟩ (.int .u16 (u.toNat : Int))).setCell ⟨w.heap.size, 8, none⟩ (.slice a8 os.length cap8)).setCell ⟨w.heap.size, 9, none⟩ (.slice a9 xs.length cap9)) = V at hBV hKV ⊢
      have ho := ho0.next hBV
      have hx := hx0.next hBV
      have hB := hBV
      have hK := hKV
      clear hBV hKV ho0 hx0
      refine (HP1 _).out.mono ?_
      rintro e w_2 ⟨rfl, hbel⟩
      replace hB := bnext hB hbel
      replace hK := hK.next hbel
      obtain ⟨p0, p1, p2, p3, p4, p5, p6, p7, p8, p9, -⟩ := hK.get10
      clear hbel
      go_wp2_with fail
      refine (HP2 _).out.mono ?_
      rintro e w_3 ⟨rfl, hbel⟩
      replace hB := bnext hB hbel
      replace hK := hK.next hbel
      clear hbel p0 p1 p2 p3 p4 p5 p6 p7 p8 p9
      go_wp2_with fail
      refine (rsame_yes none none 0 0 [] _ w_3.heap.size (Rd.nil0 _ _ _) (Rd.nil0 _ _ _)).mono ?_
      rintro e w_4 ⟨rfl, hbel⟩
      replace hbel := hbel.bel
      replace hB := bnext hB hbel
      replace hK := hK.next hbel
      obtain ⟨p0, p1, p2, p3, p4, p5, p6, p7, p8, p9, -⟩ := hK.get10
      clear hbel
      go_wp2_with fail
      refine (HP3 _).out.mono ?_
      rintro e w_5 ⟨rfl, hbel⟩
      replace hB := bnext hB hbel
      clear hbel p0 p1 p2 p3 p4 p5 p6 p7 p8 p9 hK
      go_wp2_with fail
      refine (lives09_any _).mono ?_
      rintro e wl ⟨rfl, hbel⟩
      go_wp2_with fail
      go_ret
      exact ⟨rfl, bnext hB hbel⟩
    · have h2 : os.length ≤ 40 := by omega
      by_cases h3 : os.length % 4 = 0
      · have h4 : 20 + os.length + xs.length ≤ 65535 := by omega
        obtain ⟨h8, hh⟩ : ∃ h : UInt8, h.toNat = (5 + os.length / 4) * 16 + r.toNat := ⟨UInt8.ofNat ((5 + os.length / 4) * 16 + r.toNat), by simp; omega⟩
        obtain ⟨N, hN⟩ : ∃ N, onesN (uh s d 6 (20 + os.length + xs.length) ++ tb a b q k h8 f z u 0 os xs) = N := ⟨_, rfl⟩
        have HP1 := fun W (g1 : Rd bv W W.heap.size a8 cap8 os) (g2 : Rd bv W W.heap.size a9 cap9 xs) => Lib.hid (tput_ok s d a b q k r f z u a8 a9 cap8 cap9 os xs W g1 g2 h1 h2 h3 h4 h8 hh N hN)
        have HP2 := fun W (g1 : Rd bv W W.heap.size a8 cap8 os) (g2 : Rd bv W W.heap.size a9 cap9 xs) => Lib.hid (rtput_ok s d a b q k r f z u a8 a9 cap8 cap9 os xs W g1 g2 h1 h2 h3 h4 h8 hh N hN)
        have HP3 := fun W => Lib.hid (tcheck_ok a b q k r f z u a8 a9 os.length cap8 xs.length cap9 W h1 h2 h3 h4)
        have HP4 := fun (P : List UInt8) (hP : P = tb a b q k h8 f z u (65535 - N) os xs) A c W (g : Rd bv W W.heap.size A c P) => Lib.hid (tparse_put s d a b q k r f z u os xs P h8 N h1 hh h3 h2 h4 hN hP A c W g)
        clear h1 h2 h3 h4 hh hN
        go_enter Try.func8, Try.ntmps8
        go_wp2_with fail
        refine (HF _).out.mono ?_
        rintro e w_1 ⟨rfl, hbel⟩
        have hB := bnext (bnextA (Below.refl w.heap.size w) _) hbel
        have hK := (Blk.new w #[.int .u16 (a.toNat : Int), .int .u16 (b.toNat : Int), .int .u32 (q.toNat : Int), .int .u32 (k.toNat : Int), .int .u8 (r.toNat : Int), .int .u8 (f.toNat : Int), .int .u16 (z.toNat : Int), .int .u16 (u.toNat : Int), .slice a8 len8 cap8, .slice a9 len9 cap9] 53).next hbel
        obtain ⟨p0, p1, p2, p3, p4, p5, p6, p7, p8, p9, g0, g1, g2, g3, g4, g5, g6, g7, g8, g9⟩ := hK.get10
        clear hbel HF
        go_wp2_with fail
        have hBV := bset10 hB (Nat.le_refl _) (.int .u16 (a.toNat : Int)) (.int .u16 (b.toNat : Int)) (.int .u32 (q.toNat : Int)) (.int .u32 (k.toNat : Int)) (.int .u8 (r.toNat : Int)) (.int .u8 (f.toNat : Int)) (.int .u16 (z.toNat : Int)) (.int .u16 (u.toNat : Int)) (.slice a8 os.length cap8) (.slice a9 xs.length cap9)
        have hKV := hK.set10 (u0 := .int .u16 (a.toNat : Int)) (u1 := .int .u16 (b.toNat : Int)) (u2 := .int .u32 (q.toNat : Int)) (u3 := .int .u32 (k.toNat : Int)) (u4 := .int .u8 (r.toNat : Int)) (u5 := .int .u8 (f.toNat : Int)) (u6 := .int .u16 (z.toNat : Int)) (u7 := .int .u16 (u.toNat : Int)) (u8 := .slice a8 os.length cap8) (u9 := .slice a9 xs.length cap9)
        simp only [setAll10] at hBV hKV
        clear p0 p1 p2 p3 p4 p5 p6 p7 p8 p9 g0 g1 g2 g3 g4 g5 g6 g7 g8 g9 hB hK
        generalize ((((((((((w_1.setCell ⟨w.heap.size, 0, none⟩ (.int .u16 (a.toNat : Int))).setCell ⟨w.heap.size, 1, none⟩ (.int .u16 (b.toNat : Int))).setCell ⟨w.heap.size, 2, none⟩ (.int .u32 (q.toNat : Int))).setCell ⟨w.heap.size, 3, none⟩ (.int .u32 (k.toNat : Int))).setCell ⟨w.heap.size, 4, none⟩ (.int .u8 (r.toNat : Int))).setCell ⟨w.heap.size, 5, none⟩ (.int .u8 (f.toNat : Int))).setCell ⟨w.heap.size, 6, none⟩ (.int .u16 (z.toNat : Int))).setCell ⟨w.heap.size, 7, none⟩ (.int .u16 (u.toNat : Int))).setCell ⟨w.heap.size, 8, none⟩ (.slice a8 os.length cap8)).setCell ⟨w.heap.size, 9, none⟩ (.slice a9 xs.length cap9)) = V at hBV hKV ⊢
        have ho := ho0.next hBV
        have hx := hx0.next hBV
        have hB := hBV
        have hK := hKV
        clear hBV hKV ho0 hx0
        refine (HP1 _ ho hx).out.mono ?_
        rintro e w_2 ⟨L2, A2, c2, rfl, HL2, r2, hbel⟩
        replace hB := bnext hB hbel
        replace hK := hK.next hbel
        replace ho := ho.next hbel
        replace hx := hx.next hbel
        obtain ⟨p0, p1, p2, p3, p4, p5, p6, p7, p8, p9, -⟩ := hK.get10
        clear hbel
        go_wp2_with fail
        refine (HP2 _ ho hx).out.mono ?_
        rintro e w_3 ⟨L3, A3, c3, rfl, HL3, r3, hbel⟩
        replace hB := bnext hB hbel
        replace hK := hK.next hbel
        replace ho := ho.next hbel
        replace hx := hx.next hbel
        replace r2 := r2.next hbel
        clear hbel p0 p1 p2 p3 p4 p5 p6 p7 p8 p9
        go_wp2_with fail
        refine (rsame_eq _ _ _ _ L2 L3 _ _ r2 r3 (by rw [HL2.out, HL3.out])).mono ?_
        rintro e w_4 ⟨rfl, hbel⟩
        replace hbel := hbel.bel
        replace hB := bnext hB hbel
        replace hK := hK.next hbel
        replace ho := ho.next hbel
        replace hx := hx.next hbel
        replace r2 := r2.next hbel
        obtain ⟨p0, p1, p2, p3, p4, p5, p6, p7, p8, p9, -⟩ := hK.get10
        clear hbel r3 HL3
        go_wp2_with fail
        refine (HP3 _).out.mono ?_
        rintro e w_5 ⟨rfl, hbel⟩
        replace hB := bnext hB hbel
        replace hK := hK.next hbel
        replace ho := ho.next hbel
        replace hx := hx.next hbel
        replace r2 := r2.next hbel
        clear hbel p0 p1 p2 p3 p4 p5 p6 p7 p8 p9
        go_wp2_with fail
        refine (HP4 L2 HL2.out _ _ _ r2).out.mono ?_
        rintro e w_6 ⟨Lo, Ao, co, Lx, Ax, cx, rfl, HLo, HLx, ro, rx, hbel⟩
        replace hB := bnext hB hbel
        replace hK := hK.next hbel
        replace ho := ho.next hbel
        replace hx := hx.next hbel
        obtain ⟨p0, p1, p2, p3, p4, p5, p6, p7, p8, p9, -⟩ := hK.get10
        have hlt := hK.lt
        clear hbel r2
        go_wp2_with fail
        refine (tsame_yes a b q k r f z u _ _ _ _ _ _ _ _ Lo Lx os xs _ (ro.nextA _) (rx.nextA _) (ho.nextA _) (hx.nextA _) HLo.out.symm HLx.out.symm).mono ?_
        rintro e w_7 ⟨rfl, hbel⟩
        replace hB := bnext (bnextA hB _) hbel
        clear hbel p0 p1 p2 p3 p4 p5 p6 p7 p8 p9 ro rx ho hx hK hlt
        go_wp2_with (go_at_call 33; refine (lives09_any _).mono ?_; rintro e wl ⟨rfl, hbel⟩)
        go_ret
        exact ⟨rfl, bnext hB hbel⟩
      · skip
        have HP1 := fun W => Lib.hid (tput_bad2 s d a b q k r f z u a8 a9 os.length cap8 xs.length cap9 (by omega) (by omega) W h1 h2 h3)
        have HP2 := fun W => Lib.hid (rtput_bad2 s d a b q k r f z u a8 a9 os.length cap8 xs.length cap9 (by omega) (by omega) W h1 h2 h3)
        have HP3 := fun W => Lib.hid (tcheck_bad2 a b q k r f z u a8 a9 os.length cap8 xs.length cap9 (by omega) (by omega) W h1 h2 h3)
        clear h1 h2 h3
        go_enter Try.func8, Try.ntmps8
        go_wp2_with fail
        refine (HF _).out.mono ?_
        rintro e w_1 ⟨rfl, hbel⟩
        have hB := bnext (bnextA (Below.refl w.heap.size w) _) hbel
        have hK := (Blk.new w #[.int .u16 (a.toNat : Int), .int .u16 (b.toNat : Int), .int .u32 (q.toNat : Int), .int .u32 (k.toNat : Int), .int .u8 (r.toNat : Int), .int .u8 (f.toNat : Int), .int .u16 (z.toNat : Int), .int .u16 (u.toNat : Int), .slice a8 len8 cap8, .slice a9 len9 cap9] 53).next hbel
        obtain ⟨p0, p1, p2, p3, p4, p5, p6, p7, p8, p9, g0, g1, g2, g3, g4, g5, g6, g7, g8, g9⟩ := hK.get10
        clear hbel HF
        go_wp2_with fail
        have hBV := bset10 hB (Nat.le_refl _) (.int .u16 (a.toNat : Int)) (.int .u16 (b.toNat : Int)) (.int .u32 (q.toNat : Int)) (.int .u32 (k.toNat : Int)) (.int .u8 (r.toNat : Int)) (.int .u8 (f.toNat : Int)) (.int .u16 (z.toNat : Int)) (.int .u16 (u.toNat : Int)) (.slice a8 os.length cap8) (.slice a9 xs.length cap9)
        have hKV := hK.set10 (u0 := .int .u16 (a.toNat : Int)) (u1 := .int .u16 (b.toNat : Int)) (u2 := .int .u32 (q.toNat : Int)) (u3 := .int .u32 (k.toNat : Int)) (u4 := .int .u8 (r.toNat : Int)) (u5 := .int .u8 (f.toNat : Int)) (u6 := .int .u16 (z.toNat : Int)) (u7 := .int .u16 (u.toNat : Int)) (u8 := .slice a8 os.length cap8) (u9 := .slice a9 xs.length cap9)
        simp only [setAll10] at hBV hKV
        clear p0 p1 p2 p3 p4 p5 p6 p7 p8 p9 g0 g1 g2 g3 g4 g5 g6 g7 g8 g9 hB hK
        generalize ((((((((((w_1.setCell ⟨w.heap.size, 0, none⟩ (.int .u16 (a.toNat : Int))).setCell ⟨w.heap.size, 1, none⟩ (.int .u16 (b.toNat : Int))).setCell ⟨w.heap.size, 2, none⟩ (.int .u32 (q.toNat : Int))).setCell ⟨w.heap.size, 3, none⟩ (.int .u32 (k.toNat : Int))).setCell ⟨w.heap.size, 4, none⟩ (.int .u8 (r.toNat : Int))).setCell ⟨w.heap.size, 5, none⟩ (.int .u8 (f.toNat : Int))).setCell ⟨w.heap.size, 6, none⟩ (.int .u16 (z.toNat : Int))).setCell ⟨w.heap.size, 7, none⟩ (.int .u16 (u.toNat : Int))).setCell ⟨w.heap.size, 8, none⟩ (.slice a8 os.length cap8)).setCell ⟨w.heap.size, 9, none⟩ (.slice a9 xs.length cap9)) = V at hBV hKV ⊢
        have ho := ho0.next hBV
        have hx := hx0.next hBV
        have hB := hBV
        have hK := hKV
        clear hBV hKV ho0 hx0
        refine (HP1 _).out.mono ?_
        rintro e w_2 ⟨rfl, hbel⟩
        replace hB := bnext hB hbel
        replace hK := hK.next hbel
        obtain ⟨p0, p1, p2, p3, p4, p5, p6, p7, p8, p9, -⟩ := hK.get10
        clear hbel
        go_wp2_with fail
        refine (HP2 _).out.mono ?_
        rintro e w_3 ⟨rfl, hbel⟩
        replace hB := bnext hB hbel
        replace hK := hK.next hbel
        clear hbel p0 p1 p2 p3 p4 p5 p6 p7 p8 p9
        go_wp2_with fail
        refine (rsame_yes none none 0 0 [] _ w_3.heap.size (Rd.nil0 _ _ _) (Rd.nil0 _ _ _)).mono ?_
        rintro e w_4 ⟨rfl, hbel⟩
        replace hbel := hbel.bel
        replace hB := bnext hB hbel
        replace hK := hK.next hbel
        obtain ⟨p0, p1, p2, p3, p4, p5, p6, p7, p8, p9, -⟩ := hK.get10
        clear hbel
        go_wp2_with fail
        refine (HP3 _).out.mono ?_
        rintro e w_5 ⟨rfl, hbel⟩
        replace hB := bnext hB hbel
        clear hbel p0 p1 p2 p3 p4 p5 p6 p7 p8 p9 hK
        go_wp2_with fail
        refine (lives09_any _).mono ?_
        rintro e wl ⟨rfl, hbel⟩
        go_wp2_with fail
        go_ret
        exact ⟨rfl, bnext hB hbel⟩
end Go.Proofs.Ytfejdfdgbfpgkaa
