/- The walk of the statement that a message about a packet tells of the packet's flow. -/
import Derived.Test.YtkoamiefombilaaLaw12
namespace Go.Proofs.Ytkoamiefombilaa
open Go.RowKit

set_option maxHeartbeats 8000000 in
set_option maxRecDepth 20000 in
theorem QuoteFailed_walk (y0 y1 : Int) (D M : Bool) (y4 y5 y6 y7 y8 : Int) (a8 : Option Addr) (len8 cap8 : Nat) (z8 : List Int) (a9 : Option Addr) (len9 cap9 : Nat) (z9 : List Int) (y10 : Int) (w : World) (v0 : (Lit.int .u8 y0).wf = true) (v1 : (Lit.int .u16 y1).wf = true) (v4 : (Lit.int .u16 y4).wf = true) (v5 : (Lit.int .u8 y5).wf = true) (v6 : (Lit.int .u8 y6).wf = true) (v7 : (Lit.int .u32 y7).wf = true) (v8 : (Lit.int .u32 y8).wf = true) (w8 : InRow .u8 w a8 len8 cap8 z8) (w9 : InRow .u8 w a9 len9 cap9 z9) (v10 : (Lit.int .u8 y10).wf = true) :
    Calls Try.prog 4 #[.agg #[.int .u8 y0, .int .u16 y1, .bool D, .bool M, .int .u16 y4, .int .u8 y5, .int .u8 y6, .int .u32 y7, .int .u32 y8, .slice a8 len8 cap8, .slice a9 len9 cap9], .int .u8 y10] w fun e w' => e = .returned (.bool true) ∧ Below w.heap.size w w' := by
  obtain ⟨tos, rfl⟩ := u8_of v0
  obtain ⟨id, rfl⟩ := u16_of v1
  obtain ⟨fo, rfl⟩ := u16_of v4
  obtain ⟨ttl, rfl⟩ := u8_of v5
  obtain ⟨pr, rfl⟩ := u8_of v6
  obtain ⟨s, rfl⟩ := u32_of v7
  obtain ⟨d, rfl⟩ := u32_of v8
  obtain ⟨co, rfl⟩ := u8_of v10
  obtain ⟨os, hol, ho0, hlc, hcc, hm⟩ := few_len w8 50
  obtain ⟨xs, hxl, hx0, hlc2, hcc2, hm2⟩ := few_len w9 300
  clear v0 v1 v4 v5 v6 v7 v8 v10 w8 w9
  have HF := fun W => Lib.hid (pfew_any tos id D M fo ttl pr s d a8 a9 len8 cap8 len9 cap9 os.length xs.length W hlc hcc hlc2 hcc2 hm hm2)
  clear hlc hcc hm hlc2 hcc2 hm2
  by_cases hok : os.length ≤ 40 ∧ os.length % 4 = 0 ∧ fo.toNat ≤ 8191
  · obtain ⟨h1, h2, h3⟩ := hok
    obtain ⟨h8, hh⟩ : ∃ h : UInt8, h.toNat = 69 + os.length / 4 := ⟨UInt8.ofNat (69 + os.length / 4), by simp; omega⟩
    obtain ⟨N, hN⟩ : ∃ N, onesN (ih h8 tos (20 + os.length + xs.length) id (wdN D M fo) ttl pr 0 s d os) = N := ⟨_, rfl⟩
    have HP1 : ∀ W (g1 : Rd bv W W.heap.size a8 cap8 os) (g2 : Rd bv W W.heap.size a9 cap9 xs), Hid (Calls Try.prog 15 #[.agg #[.int .u8 (tos.toNat : Int), .int .u16 (id.toNat : Int), .bool D, .bool M, .int .u16 (fo.toNat : Int), .int .u8 (ttl.toNat : Int), .int .u8 (pr.toNat : Int), .int .u32 (s.toNat : Int), .int .u32 (d.toNat : Int), .slice a8 os.length cap8, .slice a9 xs.length cap9]] W fun e w' => ∃ L A c, e = .returned (.tuple #[.slice A L.length c, .int .i64 0]) ∧ Hid (L = ih h8 tos (20 + os.length + xs.length) id (wdN D M fo) ttl pr (65535 - N) s d os ++ xs) ∧ Rd bv w' w'.heap.size A c L ∧ Below W.heap.size W w') := fun W g1 g2 => Lib.hid (pput_ok tos id D M fo ttl pr s d a8 a9 cap8 cap9 os xs W g1 g2 h1 h2 h3 (by omega) h8 hh N hN)
    by_cases hz : os.length = 0
    · have hos := List.eq_nil_of_length_eq_zero hz
      obtain ⟨ys, hy⟩ : ∃ ys, ys = xs.take 8 := ⟨_, rfl⟩
      obtain ⟨f0, f1, f2, f3, f4, er, HO1, HO2⟩ := flow_two M fo pr s d xs ys hy
      have HO1 := fun A1 c1 A c W g => Lib.hid (HO1 (.int .u8 (tos.toNat : Int)) (.int .u16 (id.toNat : Int)) (.bool D) (.int .u8 (ttl.toNat : Int)) (.slice A1 os.length c1) A c W g)
      obtain ⟨ty, t0⟩ : ∃ a : UInt8, (a.toNat : Int) = 11 := ⟨11, rfl⟩
      obtain ⟨re, t2⟩ : ∃ a : UInt32, (a.toNat : Int) = 0 := ⟨0, rfl⟩
      have H4 : ∀ L A c W (_ : L = ih h8 tos (20 + os.length + xs.length) id (wdN D M fo) ttl pr (65535 - N) s d os ++ xs) (_ : Rd bv W W.heap.size A c L), Hid (Calls Try.prog 17 #[.int .u8 11, .int .u8 (co.toNat : Int), .int .u32 0, .slice A L.length c] W fun e w' => ∃ P A1 c1, e = .returned (.agg #[.int .u8 11, .int .u8 (co.toNat : Int), .int .u32 0, .slice A1 P.length c1]) ∧ Hid (P = L.take 28) ∧ Rd bv w' w'.heap.size A1 c1 P ∧ Below W.heap.size W w') := by
        intro L A c W hL g
        have h := ifailed_any ty co re A c L W g (by rw [hL, List.length_append, ih_len]; omega)
        simp only [t0, t2] at h
        exact h
      have H3 : ∀ L P A c W (_ : L = ih h8 tos (20 + os.length + xs.length) id (wdN D M fo) ttl pr (65535 - N) s d os ++ xs) (_ : P = L.take 28) (_ : Rd bv W W.heap.size A c P), Hid (Calls Try.prog 11 #[.agg #[.int .u8 11, .int .u8 (co.toNat : Int), .int .u32 0, .slice A P.length c]] W fun e w' => e = .returned (.tuple #[.agg #[.int .u32 f0, .int .u32 f1, .int .u16 f2, .int .u16 f3, .int .u8 f4], .int .i64 er]) ∧ Below W.heap.size W w') := by
        intro L P A c W hL hP g
        subst hos
        have h := qof_put ty co re (by simp; omega) h8 tos _ id D M fo ttl pr N s d xs P ys (by simpa using hh) h3 hN (by rw [hP, hL]) hy f0 f1 f2 f3 f4 er HO2 A c W g
        simp only [t0, t2] at h
        exact h
      have hd0 : ¬ 0 < os.length := by omega
      clear t0 t2 HO2 hN hh hos hy h1 h2 h3 hz hol hxl

      go_enter Try.func4, Try.ntmps4
      go_wp2_with fail
      refine (HF _).out.mono ?_
      rintro e w_1 ⟨rfl, hbel⟩
      have hB := bnext (bnextA (Below.refl w.heap.size w) _) hbel
      have hK := (Blk.new w #[.int .u8 (tos.toNat : Int), .int .u16 (id.toNat : Int), .bool D, .bool M, .int .u16 (fo.toNat : Int), .int .u8 (ttl.toNat : Int), .int .u8 (pr.toNat : Int), .int .u32 (s.toNat : Int), .int .u32 (d.toNat : Int), .slice a8 len8 cap8, .slice a9 len9 cap9] 38).next hbel
      obtain ⟨p0, p1, p2, p3, p4, p5, p6, p7, p8, p9, p10, g0, g1, g2, g3, g4, g5, g6, g7, g8, g9, g10⟩ := hK.get11
      clear hbel HF
      go_wp2_with fail
      have hBV := bset11 hB (Nat.le_refl _) (.int .u8 (tos.toNat : Int)) (.int .u16 (id.toNat : Int)) (.bool D) (.bool M) (.int .u16 (fo.toNat : Int)) (.int .u8 (ttl.toNat : Int)) (.int .u8 (pr.toNat : Int)) (.int .u32 (s.toNat : Int)) (.int .u32 (d.toNat : Int)) (.slice a8 os.length cap8) (.slice a9 xs.length cap9)
      have hKV := hK.set11 (u0 := .int .u8 (tos.toNat : Int)) (u1 := .int .u16 (id.toNat : Int)) (u2 := .bool D) (u3 := .bool M) (u4 := .int .u16 (fo.toNat : Int)) (u5 := .int .u8 (ttl.toNat : Int)) (u6 := .int .u8 (pr.toNat : Int)) (u7 := .int .u32 (s.toNat : Int)) (u8 := .int .u32 (d.toNat : Int)) (u9 := .slice a8 os.length cap8) (u10 := .slice a9 xs.length cap9)
      simp only [setAll11] at hBV hKV
      clear p0 p1 p2 p3 p4 p5 p6 p7 p8 p9 p10 g0 g1 g2 g3 g4 g5 g6 g7 g8 g9 g10 hB hK
      generalize (((((((((((w_1.setCell ⟨w.heap.size, 0, none⟩ (.int .u8 (tos.toNat : Int))).setCell ⟨w.heap.size, 1, none⟩ (.int .u16 (id.toNat : Int))).setCell ⟨w.heap.size, 2, none⟩ (.bool D)).setCell ⟨w.heap.size, 3, none⟩ (.bool M)).setCell ⟨w.heap.size, 4, none⟩ (.int .u16 (fo.toNat : Int))).setCell ⟨w.heap.size, 5, none⟩ (.int .u8 (ttl.toNat : Int))).setCell ⟨w.heap.size, 6, none⟩ (.int .u8 (pr.toNat : Int))).setCell ⟨w.heap.size, 7, none⟩ (.int .u32 (s.toNat : Int))).setCell ⟨w.heap.size, 8, none⟩ (.int .u32 (d.toNat : Int))).setCell ⟨w.heap.size, 9, none⟩ (.slice a8 os.length cap8)).setCell ⟨w.heap.size, 10, none⟩ (.slice a9 xs.length cap9)) = V at hBV hKV ⊢
      have ho := ho0.next hBV
      have hx := hx0.next hBV
      have hB := hBV
      have hK := hKV
      clear hBV hKV ho0 hx0
      obtain ⟨p0, p1, p2, p3, p4, p5, p6, p7, p8, p9, p10, -⟩ := hK.get11
      refine (HP1 _ ho hx).out.mono ?_
      rintro e w_2 ⟨L, A, c, rfl, HL, r, hbel⟩
      replace hB := bnext hB hbel
      replace hK := hK.next hbel
      replace hx := hx.next hbel
      clear hbel HP1 ho p0 p1 p2 p3 p4 p5 p6 p7 p8 p9 p10
      obtain ⟨p0, p1, p2, p3, p4, p5, p6, p7, p8, p9, p10, -⟩ := hK.get11
      have hlt := hK.lt
      go_wp2_with fail
      refine (HO1 _ _ _ _ _ hx).out.mono ?_
      rintro e w_3 ⟨rfl, hbel⟩
      replace hB := bnext hB hbel
      replace r := r.next hbel
      clear hbel hx HO1 p0 p1 p2 p3 p4 p5 p6 p7 p8 p9 p10 hlt hK
      go_wp2_with fail
      have hF := Blk.new w_3 #[.int .u32 f0, .int .u32 f1, .int .u16 f2, .int .u16 f3, .int .u8 f4] 29
      replace hB := bnextA hB (.cells #[.int .u32 f0, .int .u32 f1, .int .u16 f2, .int .u16 f3, .int .u8 f4] 29)
      replace r := r.nextA (.cells #[.int .u32 f0, .int .u32 f1, .int .u16 f2, .int .u16 f3, .int .u8 f4] 29)
      generalize w_3.heap.size = G at hF ⊢
      generalize w_3.alloc (.cells #[.int .u32 f0, .int .u32 f1, .int .u16 f2, .int .u16 f3, .int .u8 f4] 29) = V3 at hF hB r ⊢
      refine (H4 L A c _ HL.out r).out.mono ?_
      rintro e w4 ⟨Q, A2, c2, rfl, HQ, r2, hbel⟩
      replace hB := bnext hB hbel
      replace hF := hF.next hbel
      clear hbel H4 r
      go_wp2_with fail
      refine (H3 L Q A2 c2 _ HL.out HQ.out r2).out.mono ?_
      rintro e w5 ⟨rfl, hbel⟩
      replace hB := bnext hB hbel
      replace hF := hF.next hbel
      clear hbel H3 r2
      have hlt5 := hF.lt
      obtain ⟨g0, g1, g2, g3, g4, k0, k1, k2, k3, k4⟩ := fl_cells hF
      go_wp2_with fail
      refine (lives12_any _).mono ?_
      rintro e w6 ⟨rfl, hb⟩
      go_wp2_with fail
      go_ret
      exact ⟨rfl, bnext (bnextA hB _) hb⟩
    · clear hN hh h1 h2 h3
      go_enter Try.func4, Try.ntmps4
      go_wp2_with fail
      refine (HF _).out.mono ?_
      rintro e w_1 ⟨rfl, hbel⟩
      have hB := bnext (bnextA (Below.refl w.heap.size w) _) hbel
      have hK := (Blk.new w #[.int .u8 (tos.toNat : Int), .int .u16 (id.toNat : Int), .bool D, .bool M, .int .u16 (fo.toNat : Int), .int .u8 (ttl.toNat : Int), .int .u8 (pr.toNat : Int), .int .u32 (s.toNat : Int), .int .u32 (d.toNat : Int), .slice a8 len8 cap8, .slice a9 len9 cap9] 38).next hbel
      obtain ⟨p0, p1, p2, p3, p4, p5, p6, p7, p8, p9, p10, g0, g1, g2, g3, g4, g5, g6, g7, g8, g9, g10⟩ := hK.get11
      clear hbel HF
      go_wp2_with fail
      have hBV := bset11 hB (Nat.le_refl _) (.int .u8 (tos.toNat : Int)) (.int .u16 (id.toNat : Int)) (.bool D) (.bool M) (.int .u16 (fo.toNat : Int)) (.int .u8 (ttl.toNat : Int)) (.int .u8 (pr.toNat : Int)) (.int .u32 (s.toNat : Int)) (.int .u32 (d.toNat : Int)) (.slice a8 os.length cap8) (.slice a9 xs.length cap9)
      have hKV := hK.set11 (u0 := .int .u8 (tos.toNat : Int)) (u1 := .int .u16 (id.toNat : Int)) (u2 := .bool D) (u3 := .bool M) (u4 := .int .u16 (fo.toNat : Int)) (u5 := .int .u8 (ttl.toNat : Int)) (u6 := .int .u8 (pr.toNat : Int)) (u7 := .int .u32 (s.toNat : Int)) (u8 := .int .u32 (d.toNat : Int)) (u9 := .slice a8 os.length cap8) (u10 := .slice a9 xs.length cap9)
      simp only [setAll11] at hBV hKV
      clear p0 p1 p2 p3 p4 p5 p6 p7 p8 p9 p10 g0 g1 g2 g3 g4 g5 g6 g7 g8 g9 g10 hB hK
      generalize (((((((((((w_1.setCell ⟨w.heap.size, 0, none⟩ (.int .u8 (tos.toNat : Int))).setCell ⟨w.heap.size, 1, none⟩ (.int .u16 (id.toNat : Int))).setCell ⟨w.heap.size, 2, none⟩ (.bool D)).setCell ⟨w.heap.size, 3, none⟩ (.bool M)).setCell ⟨w.heap.size, 4, none⟩ (.int .u16 (fo.toNat : Int))).setCell ⟨w.heap.size, 5, none⟩ (.int .u8 (ttl.toNat : Int))).setCell ⟨w.heap.size, 6, none⟩ (.int .u8 (pr.toNat : Int))).setCell ⟨w.heap.size, 7, none⟩ (.int .u32 (s.toNat : Int))).setCell ⟨w.heap.size, 8, none⟩ (.int .u32 (d.toNat : Int))).setCell ⟨w.heap.size, 9, none⟩ (.slice a8 os.length cap8)).setCell ⟨w.heap.size, 10, none⟩ (.slice a9 xs.length cap9)) = V at hBV hKV ⊢
      have ho := ho0.next hBV
      have hx := hx0.next hBV
      have hB := hBV
      have hK := hKV
      clear hBV hKV ho0 hx0
      obtain ⟨p0, p1, p2, p3, p4, p5, p6, p7, p8, p9, p10, -⟩ := hK.get11
      refine (HP1 _ ho hx).out.mono ?_
      rintro e w_2 ⟨L, A, c, rfl, HL, r, hbel⟩
      replace hB := bnext hB hbel
      replace hK := hK.next hbel
      clear hbel HP1 ho hx r p0 p1 p2 p3 p4 p5 p6 p7 p8 p9 p10
      obtain ⟨p0, p1, p2, p3, p4, p5, p6, p7, p8, p9, p10, -⟩ := hK.get11
      have hlt := hK.lt
      have hd0 : 0 < os.length := by omega
      clear hz hol hxl
      go_wp2_with fail
      refine (lives12_any _).mono ?_
      rintro e wl ⟨rfl, hbel⟩
      replace hB := bnext hB hbel
      go_wp2_with fail
      go_ret
      exact ⟨rfl, hB⟩
  · have HPB : ∀ W, Hid (Calls Try.prog 15 #[.agg #[.int .u8 (tos.toNat : Int), .int .u16 (id.toNat : Int), .bool D, .bool M, .int .u16 (fo.toNat : Int), .int .u8 (ttl.toNat : Int), .int .u8 (pr.toNat : Int), .int .u32 (s.toNat : Int), .int .u32 (d.toNat : Int), .slice a8 os.length cap8, .slice a9 xs.length cap9]] W fun e w' => e = .returned (.tuple #[.slice none 0 0, .int .i64 2]) ∧ Below W.heap.size W w') := by
      intro W
      by_cases h1 : os.length ≤ 40
      · by_cases h2 : os.length % 4 = 0
        · exact Lib.hid (pput_bad2 tos id D M fo ttl pr s d a8 a9 os.length cap8 xs.length cap9 (by omega) (by omega) W h1 h2 (by omega))
        · exact Lib.hid (pput_bad1 tos id D M fo ttl pr s d a8 a9 os.length cap8 xs.length cap9 (by omega) (by omega) W h1 h2)
      · exact Lib.hid (pput_bad0 tos id D M fo ttl pr s d a8 a9 os.length cap8 xs.length cap9 (by omega) (by omega) W (by omega))
    clear hok
    go_enter Try.func4, Try.ntmps4
    go_wp2_with fail
    refine (HF _).out.mono ?_
    rintro e w_1 ⟨rfl, hbel⟩
    have hB := bnext (bnextA (Below.refl w.heap.size w) _) hbel
    have hK := (Blk.new w #[.int .u8 (tos.toNat : Int), .int .u16 (id.toNat : Int), .bool D, .bool M, .int .u16 (fo.toNat : Int), .int .u8 (ttl.toNat : Int), .int .u8 (pr.toNat : Int), .int .u32 (s.toNat : Int), .int .u32 (d.toNat : Int), .slice a8 len8 cap8, .slice a9 len9 cap9] 38).next hbel
    obtain ⟨p0, p1, p2, p3, p4, p5, p6, p7, p8, p9, p10, g0, g1, g2, g3, g4, g5, g6, g7, g8, g9, g10⟩ := hK.get11
    clear hbel HF
    go_wp2_with fail
    have hBV := bset11 hB (Nat.le_refl _) (.int .u8 (tos.toNat : Int)) (.int .u16 (id.toNat : Int)) (.bool D) (.bool M) (.int .u16 (fo.toNat : Int)) (.int .u8 (ttl.toNat : Int)) (.int .u8 (pr.toNat : Int)) (.int .u32 (s.toNat : Int)) (.int .u32 (d.toNat : Int)) (.slice a8 os.length cap8) (.slice a9 xs.length cap9)
    have hKV := hK.set11 (u0 := .int .u8 (tos.toNat : Int)) (u1 := .int .u16 (id.toNat : Int)) (u2 := .bool D) (u3 := .bool M) (u4 := .int .u16 (fo.toNat : Int)) (u5 := .int .u8 (ttl.toNat : Int)) (u6 := .int .u8 (pr.toNat : Int)) (u7 := .int .u32 (s.toNat : Int)) (u8 := .int .u32 (d.toNat : Int)) (u9 := .slice a8 os.length cap8) (u10 := .slice a9 xs.length cap9)
    simp only [setAll11] at hBV hKV
    clear p0 p1 p2 p3 p4 p5 p6 p7 p8 p9 p10 g0 g1 g2 g3 g4 g5 g6 g7 g8 g9 g10 hB hK
    generalize (((((((((((w_1.setCell ⟨w.heap.size, 0, none⟩ (.int .u8 (tos.toNat : Int))).setCell ⟨w.heap.size, 1, none⟩ (.int .u16 (id.toNat : Int))).setCell ⟨w.heap.size, 2, none⟩ (.bool D)).setCell ⟨w.heap.size, 3, none⟩ (.bool M)).setCell ⟨w.heap.size, 4, none⟩ (.int .u16 (fo.toNat : Int))).setCell ⟨w.heap.size, 5, none⟩ (.int .u8 (ttl.toNat : Int))).setCell ⟨w.heap.size, 6, none⟩ (.int .u8 (pr.toNat : Int))).setCell ⟨w.heap.size, 7, none⟩ (.int .u32 (s.toNat : Int))).setCell ⟨w.heap.size, 8, none⟩ (.int .u32 (d.toNat : Int))).setCell ⟨w.heap.size, 9, none⟩ (.slice a8 os.length cap8)).setCell ⟨w.heap.size, 10, none⟩ (.slice a9 xs.length cap9)) = V at hBV hKV ⊢
    have ho := ho0.next hBV
    have hx := hx0.next hBV
    have hB := hBV
    have hK := hKV
    clear hBV hKV ho0 hx0
    obtain ⟨p0, p1, p2, p3, p4, p5, p6, p7, p8, p9, p10, -⟩ := hK.get11
    refine (HPB _).out.mono ?_
    rintro e w_2 ⟨rfl, hbel⟩
    replace hB := bnext hB hbel
    clear hbel HPB ho hx p0 p1 p2 p3 p4 p5 p6 p7 p8 p9 p10 hK
    go_wp2_with fail
    refine (lives12_any _).mono ?_
    rintro e wl ⟨rfl, hbel⟩
    replace hB := bnext hB hbel
    go_wp2_with fail
    go_ret
    exact ⟨rfl, hB⟩
end Go.Proofs.Ytkoamiefombilaa
