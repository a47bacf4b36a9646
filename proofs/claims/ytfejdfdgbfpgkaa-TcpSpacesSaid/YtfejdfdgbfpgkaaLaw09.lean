/- The walks of the statements on package tcp: what is read. -/
import Derived.Test.YtfejdfdgbfpgkaaTcp2
import Derived.Test.YtfejdfdgbfpgkaaTcp5
import Derived.Test.YtfejdfdgbfpgkaaTcp6
namespace Go.Proofs.Ytfejdfdgbfpgkaa
open Go.RowKit

set_option maxHeartbeats 2000000 in
theorem lives09_any (w : World) : Calls Try.prog 33 #[] w fun e w' => e = .returned (.bool true) ∧ Below w.heap.size w w' := by
  obtain ⟨a, ea⟩ : ∃ a : UInt16, (a.toNat : Int) = 3 := ⟨3, rfl⟩
  obtain ⟨b, eb⟩ : ∃ a : UInt16, (a.toNat : Int) = 4 := ⟨4, rfl⟩
  obtain ⟨q, eq⟩ : ∃ a : UInt32, (a.toNat : Int) = 5 := ⟨5, rfl⟩
  obtain ⟨k, ek⟩ : ∃ a : UInt32, (a.toNat : Int) = 6 := ⟨6, rfl⟩
  obtain ⟨r, er⟩ : ∃ a : UInt8, (a.toNat : Int) = 0 := ⟨0, rfl⟩
  obtain ⟨f, ef, hsp⟩ : ∃ a : UInt8, (a.toNat : Int) = 2 ∧ sp a = 1 := ⟨2, rfl, by decide⟩
  obtain ⟨z, ez⟩ : ∃ a : UInt16, (a.toNat : Int) = 65535 := ⟨65535, rfl⟩
  obtain ⟨u, eu⟩ : ∃ a : UInt16, (a.toNat : Int) = 0 := ⟨0, rfl⟩
  obtain ⟨s, es⟩ : ∃ a : UInt32, (a.toNat : Int) = 1 := ⟨1, rfl⟩
  obtain ⟨d, ed⟩ : ∃ a : UInt32, (a.toNat : Int) = 2 := ⟨2, rfl⟩
  obtain ⟨h8, eh⟩ : ∃ a : UInt8, a.toNat = 80 := ⟨80, rfl⟩
  obtain ⟨os, ho⟩ : ∃ l : List UInt8, l.length = 0 := ⟨[], rfl⟩
  obtain ⟨xs, hx⟩ : ∃ l : List UInt8, l.length = 0 := ⟨[], rfl⟩
  obtain ⟨N, hN⟩ : ∃ N, onesN (uh s d 6 (20 + os.length + xs.length) ++ tb a b q k h8 f z u 0 os xs) = N := ⟨_, rfl⟩
  have H1 : ∀ W, Hid (Calls Try.prog 39 #[.int .u16 3, .int .u16 4, .int .u32 5, .int .u32 6, .int .u8 2] W fun e w' => e = .returned (.agg #[.int .u16 3, .int .u16 4, .int .u32 5, .int .u32 6, .int .u8 0, .int .u8 2, .int .u16 65535, .int .u16 0, .slice none 0 0, .slice none 0 0]) ∧ Below W.heap.size W w') := by
    intro W
    have h := tplain_any a b q k f W
    simp only [ea, eb, eq, ek, ef] at h
    exact h
  have H2 : ∀ W, Hid (Calls Try.prog 35 #[.int .u32 1, .int .u32 2, .agg #[.int .u16 3, .int .u16 4, .int .u32 5, .int .u32 6, .int .u8 0, .int .u8 2, .int .u16 65535, .int .u16 0, .slice none 0 0, .slice none 0 0]] W fun e w' => ∃ L A c, e = .returned (.tuple #[.slice A L.length c, .int .i64 0]) ∧ Hid (L = tb a b q k h8 f z u (65535 - N) os xs) ∧ Rd bv w' w'.heap.size A c L ∧ Below W.heap.size W w') := by
    intro W
    have h := tput_ok s d a b q k r f z u none none 0 0 os xs W (by rw [List.eq_nil_of_length_eq_zero ho]; exact Rd.nil0 _ _ _) (by rw [List.eq_nil_of_length_eq_zero hx]; exact Rd.nil0 _ _ _) (by omega) (by omega) (by omega) (by omega) h8 (by omega) N hN
    simp only [ea, eb, eq, ek, er, ef, ez, eu, es, ed, ho, hx] at h
    exact h
  have H3 : ∀ (P : List UInt8) (_ : P = tb a b q k h8 f z u (65535 - N) os xs) A c W (_ : Rd bv W W.heap.size A c P), Hid (Calls Try.prog 30 #[.int .u32 1, .int .u32 2, .slice A P.length c] W fun e w' => ∃ Lo Ao co Lx Ax cx, e = .returned (.tuple #[.agg #[.int .u16 3, .int .u16 4, .int .u32 5, .int .u32 6, .int .u8 0, .int .u8 2, .int .u16 65535, .int .u16 0, .slice Ao Lo.length co, .slice Ax Lx.length cx], .int .i64 0]) ∧ Hid (Lo = os) ∧ Hid (Lx = xs) ∧ Rd bv w' w'.heap.size Ao co Lo ∧ Rd bv w' w'.heap.size Ax cx Lx ∧ Below W.heap.size W w') := by
    intro P hP A c W hr
    have h := tparse_put s d a b q k r f z u os xs P h8 N (by omega) (by omega) (by omega) (by omega) (by omega) hN hP A c W hr
    simp only [ea, eb, eq, ek, er, ef, ez, eu, es, ed] at h
    exact h
  have H4 : ∀ A1 c1 n1 A2 c2 n W (_ : n = 0), Hid (Calls Try.prog 43 #[.agg #[.int .u16 3, .int .u16 4, .int .u32 5, .int .u32 6, .int .u8 0, .int .u8 2, .int .u16 65535, .int .u16 0, .slice A1 n1 c1, .slice A2 n c2]] W fun e w' => e = .returned (.int .u32 6) ∧ Below W.heap.size W w') := by
    intro A1 c1 n1 A2 c2 n W hn
    have h := tnext_any a b q k r f z u A1 A2 n1 c1 n c2 (by omega) W
    have hv : (((q.toNat + (n + sp f)) % 4294967296 : Nat) : Int) = 6 := by rw [hn, hsp]; omega
    rw [hv] at h
    simp only [ea, eb, eq, ek, er, ef, ez, eu] at h
    exact h
  have HLT : ∀ L : List UInt8, L = tb a b q k h8 f z u (65535 - N) os xs → L.length = 20 := fun L h => by rw [h, tb_len, ho, hx]
  have HX0 : ∀ L : List UInt8, L = xs → L.length = 0 := fun L h => by rw [h, hx]
  clear hN ea eb eq ek er ef ez eu es ed eh ho hx hsp
  go_enter Try.func33, Try.ntmps33
  go_wp2_with fail
  refine (H1 _).out.mono ?_
  rintro e w1 ⟨rfl, hB⟩
  go_wp2_with fail
  refine (H2 _).out.mono ?_
  rintro e w2 ⟨L, A, c, rfl, HL, r, hbel⟩
  replace hB := bnext hB hbel
  clear hbel H1 H2
  have HLL := Lib.hid (HLT L HL.out)
  go_wp2_with fail
  refine (H3 L HL.out _ _ _ r).out.mono ?_
  rintro e w3 ⟨Lo, Ao, co, Lx, Ax, cx, rfl, HLo, HLx, -, -, hbel⟩
  replace hB := bnext hB hbel
  have hl0 := HX0 Lx HLx.out
  have hlen := HLL.out
  clear hbel H3 r
  go_wp2_with fail
  refine (H4 _ _ _ _ _ 0 _ rfl).out.mono ?_
  rintro e w4 ⟨rfl, hbel⟩
  replace hB := bnext (bnextA hB _) hbel
  go_wp2_with fail
  go_ret
  exact ⟨rfl, hB⟩

theorem u16_be (xs : List UInt8) (k : Nat) (h : k + 2 ≤ xs.length) : ∃ a : UInt16, beN ((xs.drop k).take 2) = a.toNat := by
  refine ⟨UInt16.ofNat (beN ((xs.drop k).take 2)), ?_⟩
  rw [take_two xs k h, beN_two, UInt16.ofNat_id]
  have h1 := (xs[k]).toNat_lt
  have h2 := (xs[k + 1]).toNat_lt
  generalize (xs[k]).toNat = x at h1 ⊢
  generalize (xs[k + 1]).toNat = y at h2 ⊢
  omega
theorem u32_be (xs : List UInt8) (k : Nat) : ∃ a : UInt32, beN ((xs.drop k).take 4) = a.toNat := by
  refine ⟨UInt32.ofNat (beN ((xs.drop k).take 4)), ?_⟩
  have := beN_lt ((xs.drop k).take 4)
  simp
  omega
set_option maxHeartbeats 2000000 in
theorem TcpParses_walk (a0 a1 : Int) (a2 : Option Addr) (len2 cap2 : Nat) (z2 : List Int) (w : World) (w0 : (Lit.int .u32 a0).wf = true) (w1 : (Lit.int .u32 a1).wf = true) (w2 : InRow .u8 w a2 len2 cap2 z2) :
    Calls Try.prog 7 #[.int .u32 a0, .int .u32 a1, .slice a2 len2 cap2] w fun e w' => e = .returned (.bool true) ∧ Below w.heap.size w w' := by
  obtain ⟨s, rfl⟩ := u32_of w0
  obtain ⟨d, rfl⟩ := u32_of w1
  obtain ⟨xs, hxl, ha, HFa⟩ := few_row w2 300 (by omega)
  clear w0 w1 w2
  by_cases h20 : xs.length < 20
  · have P1 := fun W (h : Rd bv W W.heap.size a2 cap2 xs) => Lib.hid (tparse_short s d a2 cap2 xs W h h20)
    have P2 := fun W (h : Rd bv W W.heap.size a2 cap2 xs) => Lib.hid (rtparse_short s d a2 cap2 xs W h h20)
    go_enter Try.func7, Try.ntmps7
    have hB := Below.refl w.heap.size w
    go_wp2_with fail
    refine (HFa.out).mono ?_
    rintro e w_1 ⟨rfl, rfl⟩
    go_wp2_with fail
    refine (P1 _ ha).out.mono ?_
    rintro e w_2 ⟨rfl, hbel⟩
    replace hB := bnext hB hbel
    replace ha := ha.next hbel
    clear hbel
    go_wp2_with fail
    refine (P2 _ (ha.nextA _)).out.mono ?_
    rintro e w_3 ⟨rfl, hbel⟩
    obtain ⟨p0, p1, p2, p3, p4, p5, p6, p7, p8, p9, -⟩ := ((Blk.new w_2 #[.int .u16 0, .int .u16 0, .int .u32 0, .int .u32 0, .int .u8 0, .int .u8 0, .int .u16 0, .int .u16 0, .slice none 0 0, .slice none 0 0] 53).next hbel).get10
    have hlt : w_2.heap.size < w_3.heap.size := by have := hbel.size; simp at this; omega
    replace hB := bnext (bnextA hB _) hbel
    clear hbel ha P1 P2
    go_wp2_with fail
    refine (tsame_zero _).mono ?_
    rintro e w_4 ⟨rfl, hbel⟩
    replace hB := bnext (bnextA hB _) hbel
    clear hbel p0 p1 p2 p3 p4 p5 p6 p7 p8 p9 hlt
    go_wp2_with fail
    go_wp2_with (go_at_call 33; refine (lives09_any _).mono ?_; rintro e wl ⟨rfl, hbel⟩)
    go_ret
    exact ⟨rfl, bnext hB hbel⟩
  · have h20' : 20 ≤ xs.length := by omega
    by_cases hm : (xs[12]).toNat / 16 < 5
    · have P1 := fun W (h : Rd bv W W.heap.size a2 cap2 xs) => Lib.hid (tparse_form0 s d a2 cap2 xs W h h20' hm)
      have P2 := fun W (h : Rd bv W W.heap.size a2 cap2 xs) => Lib.hid (rtparse_form0 s d a2 cap2 xs W h h20' hm)
      clear hm
      go_enter Try.func7, Try.ntmps7
      have hB := Below.refl w.heap.size w
      go_wp2_with fail
      refine (HFa.out).mono ?_
      rintro e w_2 ⟨rfl, rfl⟩
      go_wp2_with fail
      refine (P1 _ ha).out.mono ?_
      rintro e w_2 ⟨rfl, hbel⟩
      replace hB := bnext hB hbel
      replace ha := ha.next hbel
      clear hbel
      go_wp2_with fail
      refine (P2 _ (ha.nextA _)).out.mono ?_
      rintro e w_3 ⟨rfl, hbel⟩
      obtain ⟨p0, p1, p2, p3, p4, p5, p6, p7, p8, p9, -⟩ := ((Blk.new w_2 #[.int .u16 0, .int .u16 0, .int .u32 0, .int .u32 0, .int .u8 0, .int .u8 0, .int .u16 0, .int .u16 0, .slice none 0 0, .slice none 0 0] 53).next hbel).get10
      have hlt : w_2.heap.size < w_3.heap.size := by have := hbel.size; simp at this; omega
      replace hB := bnext (bnextA hB _) hbel
      clear hbel ha P1 P2
      go_wp2_with fail
      refine (tsame_zero _).mono ?_
      rintro e w_4 ⟨rfl, hbel⟩
      replace hB := bnext (bnextA hB _) hbel
      clear hbel p0 p1 p2 p3 p4 p5 p6 p7 p8 p9 hlt
      go_wp2_with fail
      go_wp2_with (go_at_call 33; refine (lives09_any _).mono ?_; rintro e wl ⟨rfl, hbel⟩)
      go_ret
      exact ⟨rfl, bnext hB hbel⟩
    · have hm5 : 5 ≤ (xs[12]).toNat / 16 := by omega
      by_cases hl : xs.length < 4 * ((xs[12]).toNat / 16)
      · have P1 := fun W (h : Rd bv W W.heap.size a2 cap2 xs) => Lib.hid (tparse_long s d a2 cap2 xs W h h20' hm5 (by omega) hl)
        have P2 := fun W (h : Rd bv W W.heap.size a2 cap2 xs) => Lib.hid (rtparse_long s d a2 cap2 xs W h h20' hm5 (by omega) hl)
        clear hm hm5 hl
        go_enter Try.func7, Try.ntmps7
        have hB := Below.refl w.heap.size w
        go_wp2_with fail
        refine (HFa.out).mono ?_
        rintro e w_3 ⟨rfl, rfl⟩
        go_wp2_with fail
        refine (P1 _ ha).out.mono ?_
        rintro e w_2 ⟨rfl, hbel⟩
        replace hB := bnext hB hbel
        replace ha := ha.next hbel
        clear hbel
        go_wp2_with fail
        refine (P2 _ (ha.nextA _)).out.mono ?_
        rintro e w_3 ⟨rfl, hbel⟩
        obtain ⟨p0, p1, p2, p3, p4, p5, p6, p7, p8, p9, -⟩ := ((Blk.new w_2 #[.int .u16 0, .int .u16 0, .int .u32 0, .int .u32 0, .int .u8 0, .int .u8 0, .int .u16 0, .int .u16 0, .slice none 0 0, .slice none 0 0] 53).next hbel).get10
        have hlt : w_2.heap.size < w_3.heap.size := by have := hbel.size; simp at this; omega
        replace hB := bnext (bnextA hB _) hbel
        clear hbel ha P1 P2
        go_wp2_with fail
        refine (tsame_zero _).mono ?_
        rintro e w_4 ⟨rfl, hbel⟩
        replace hB := bnext (bnextA hB _) hbel
        clear hbel p0 p1 p2 p3 p4 p5 p6 p7 p8 p9 hlt
        go_wp2_with fail
        go_wp2_with (go_at_call 33; refine (lives09_any _).mono ?_; rintro e wl ⟨rfl, hbel⟩)
        go_ret
        exact ⟨rfl, bnext hB hbel⟩
      · by_cases hN : onesN (uh s d 6 xs.length ++ xs) = 65535
        · obtain ⟨a, ha0⟩ := u16_be xs 0 (by omega)
          obtain ⟨b, hb0⟩ := u16_be xs 2 (by omega)
          obtain ⟨q, hq0⟩ := u32_be xs 4
          obtain ⟨k, hk0⟩ := u32_be xs 8
          obtain ⟨z, hz0⟩ := u16_be xs 14 (by omega)
          obtain ⟨u, hu0⟩ := u16_be xs 18 (by omega)
          obtain ⟨r, hr0⟩ : ∃ r : UInt8, (xs[12]).toNat % 16 = r.toNat := ⟨UInt8.ofNat ((xs[12]).toNat % 16), by simp; omega⟩
          have P1 := fun W (h : Rd bv W W.heap.size a2 cap2 xs) => Lib.hid (tparse_ok s d a2 cap2 xs W h h20' _ rfl hm5 (by omega) (by omega) hN a b q k r (xs[13]) z u ha0 hb0 hq0 hk0 hr0 rfl hz0 hu0)
          have P2 := fun W (h : Rd bv W W.heap.size a2 cap2 xs) => Lib.hid (rtparse_ok s d a2 cap2 xs W h h20' _ rfl hm5 (by omega) (by omega) hN a b q k r (xs[13]) z u ha0 hb0 hq0 hk0 hr0 rfl hz0 hu0)
          generalize (xs[12]).toNat / 16 = m at P1 P2
          generalize xs[13] = f at P1 P2
          clear ha0 hb0 hq0 hk0 hz0 hu0 hr0 hm hm5 hl hN
          go_enter Try.func7, Try.ntmps7
          have hB := Below.refl w.heap.size w
          go_wp2_with fail
          refine (HFa.out).mono ?_
          rintro e w_4 ⟨rfl, rfl⟩
          go_wp2_with fail
          refine (P1 _ ha).out.mono ?_
          rintro e w_2 ⟨Lo, Ao, co, Lx, Ax, cx, rfl, HLo, HLx, ro, rx, hbel⟩
          replace hB := bnext hB hbel
          replace ha := ha.next hbel
          clear hbel
          go_wp2_with fail
          refine (P2 _ (ha.nextA _)).out.mono ?_
          rintro e w_3 ⟨Mo, Bo, do_, Mx, Bx, dx, rfl, HMo, HMx, so, sx, hbel⟩
          replace ro := (ro.nextA _).next hbel
          replace rx := (rx.nextA _).next hbel
          obtain ⟨p0, p1, p2, p3, p4, p5, p6, p7, p8, p9, -⟩ := ((Blk.new w_2 #[.int .u16 (a.toNat : Int), .int .u16 (b.toNat : Int), .int .u32 (q.toNat : Int), .int .u32 (k.toNat : Int), .int .u8 (r.toNat : Int), .int .u8 (f.toNat : Int), .int .u16 (z.toNat : Int), .int .u16 (u.toNat : Int), .slice Ao Lo.length co, .slice Ax Lx.length cx] 53).next hbel).get10
          have hlt : w_2.heap.size < w_3.heap.size := by have := hbel.size; simp at this; omega
          replace hB := bnext (bnextA hB _) hbel
          clear hbel ha P1 P2
          go_wp2_with fail
          refine (tsame_yes a b q k r f z u _ _ _ _ _ _ _ _ Lo Lx Mo Mx _ (ro.nextA _) (rx.nextA _) (so.nextA _) (sx.nextA _) (by rw [HMo.out, HLo.out]) (by rw [HMx.out, HLx.out])).mono ?_
          rintro e w_4 ⟨rfl, hbel⟩
          replace hB := bnext (bnextA hB _) hbel
          clear hbel p0 p1 p2 p3 p4 p5 p6 p7 p8 p9 hlt ro rx so sx
          go_wp2_with fail
          go_wp2_with (go_at_call 33; refine (lives09_any _).mono ?_; rintro e wl ⟨rfl, hbel⟩)
          go_ret
          exact ⟨rfl, bnext hB hbel⟩
        · have P1 := fun W (h : Rd bv W W.heap.size a2 cap2 xs) => Lib.hid (tparse_sum s d a2 cap2 xs W h h20' hm5 (by omega) (by omega) hN)
          have P2 := fun W (h : Rd bv W W.heap.size a2 cap2 xs) => Lib.hid (rtparse_sum s d a2 cap2 xs W h h20' hm5 (by omega) (by omega) hN)
          clear hm hm5 hl hN
          go_enter Try.func7, Try.ntmps7
          have hB := Below.refl w.heap.size w
          go_wp2_with fail
          refine (HFa.out).mono ?_
          rintro e w_5 ⟨rfl, rfl⟩
          go_wp2_with fail
          refine (P1 _ ha).out.mono ?_
          rintro e w_2 ⟨rfl, hbel⟩
          replace hB := bnext hB hbel
          replace ha := ha.next hbel
          clear hbel
          go_wp2_with fail
          refine (P2 _ (ha.nextA _)).out.mono ?_
          rintro e w_3 ⟨rfl, hbel⟩
          obtain ⟨p0, p1, p2, p3, p4, p5, p6, p7, p8, p9, -⟩ := ((Blk.new w_2 #[.int .u16 0, .int .u16 0, .int .u32 0, .int .u32 0, .int .u8 0, .int .u8 0, .int .u16 0, .int .u16 0, .slice none 0 0, .slice none 0 0] 53).next hbel).get10
          have hlt : w_2.heap.size < w_3.heap.size := by have := hbel.size; simp at this; omega
          replace hB := bnext (bnextA hB _) hbel
          clear hbel ha P1 P2
          go_wp2_with fail
          refine (tsame_zero _).mono ?_
          rintro e w_4 ⟨rfl, hbel⟩
          replace hB := bnext (bnextA hB _) hbel
          clear hbel p0 p1 p2 p3 p4 p5 p6 p7 p8 p9 hlt
          go_wp2_with fail
          go_wp2_with (go_at_call 33; refine (lives09_any _).mono ?_; rintro e wl ⟨rfl, hbel⟩)
          go_ret
          exact ⟨rfl, bnext hB hbel⟩
end Go.Proofs.Ytfejdfdgbfpgkaa
